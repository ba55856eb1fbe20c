/- The list of pairs with a key put. -/
import Derived.RangeFuncNested
import Derived.RangeFuncBound
import Derived.RangeFuncCalls
import Derived.RangeFuncLeaves
import Derived.RangeFuncBox
import Derived.Shelf.Abstract
import Derived.WalkKit
import Derived.OwnWalkIn
import Derived.TacticsInMore
import Derived.LoopNIn
import Derived.LoopIn
import Derived.Test.YtkaekiodjjhjkaaQTM
import Derived.Test.YtkaekiodjjhjkaaQTB
import Derived.Deep.RegionHeld3
namespace Go.Proofs.Ytkaekiodjjhjkaa.G
open Go.RowKit Go.Shelf
set_option linter.unusedSimpArgs false
set_option linter.unusedVariables false
attribute [local go_sem] Oper.semAt_some

def putO (ps : List Pr) (key : Int) (val : ByteArray) : List Pr := ps.map fun x => if x.1 == key then (x.1, val) else (x.1, x.2)
def anyK (ps : List Pr) (key : Int) : Bool := ps.any fun x => x.1 == key
def putP (ps : List Pr) (key : Int) (val : ByteArray) : List Pr := if anyK ps key = true then putO ps key val else putO ps key val ++ [(key, val)]
end Go.Proofs.Ytkaekiodjjhjkaa.G
namespace Go.Proofs.Ytkaekiodjjhjkaa.G
open Go.RowKit Go.Shelf
set_option linter.unusedSimpArgs false
set_option linter.unusedVariables false
attribute [local go_sem] Oper.semAt_some

/-- Block B holds a table. -/
def Box5 (W : World) (B : Nat) (k s r : Int) (v u : Value) : Prop := W.heap[B]? = some (.cells #[.int .i64 k, .int .i64 s, .int .i64 r, v, u] 89 (0, 0))
section
variable {W W' : World} {B : Nat} {k s r : Int} {v u : Value}
theorem Box5.lt (h : Box5 W B k s r v u) : B < W.heap.size := (Array.getElem?_eq_some_iff.1 h).1
theorem Box5.cells (h : Box5 W B k s r v u) : W.cell? ⟨B, 0, none⟩ = some (.int .i64 k) ∧ W.cell? ⟨B, 1, none⟩ = some (.int .i64 s) ∧ W.cell? ⟨B, 2, none⟩ = some (.int .i64 r) ∧ W.cell? ⟨B, 3, none⟩ = some v ∧ W.cell? ⟨B, 4, none⟩ = some u := by simp [World.cell?, show W.heap[B]? = _ from h]
theorem Box5.frozen (h : Box5 W B k s r v u) (j : Nat) : W.frozen? ⟨B, j, none⟩ = false := by simp [World.frozen?, show W.heap[B]? = _ from h]
theorem Box5.kept {row : Option Nat} (h : Box5 W B k s r v u) (hg : W.grownBy W' row) (hne : some B ≠ row) : Box5 W' B k s r v u := (hg.block B (Box5.lt h) hne).trans h
theorem Box5.set3 (v' : Value) (h : Box5 W B k s r v u) : Box5 (W.setCell ⟨B, 3, none⟩ v') B k s r v' u := by
  obtain ⟨hlt, hk⟩ := Array.getElem?_eq_some_iff.1 h
  show (W.heap.modify B _)[B]? = _
  rw [Array.getElem?_eq_getElem (by rw [Array.size_modify]; exact hlt), Array.getElem_modify_self, hk]
  rfl
theorem Box5.set4 (v' : Value) (h : Box5 W B k s r v u) : Box5 (W.setCell ⟨B, 4, none⟩ v') B k s r v v' := by
  obtain ⟨hlt, hk⟩ := Array.getElem?_eq_some_iff.1 h
  show (W.heap.modify B _)[B]? = _
  rw [Array.getElem?_eq_getElem (by rw [Array.size_modify]; exact hlt), Array.getElem_modify_self, hk]
  rfl
theorem Box5.set0 (x : Int) (h : Box5 W B k s r v u) : Box5 (W.setCell ⟨B, 0, none⟩ (.int .i64 x)) B x s r v u := by
  obtain ⟨hlt, hk⟩ := Array.getElem?_eq_some_iff.1 h
  show (W.heap.modify B _)[B]? = _
  rw [Array.getElem?_eq_getElem (by rw [Array.size_modify]; exact hlt), Array.getElem_modify_self, hk]
  rfl
theorem Box5.set1 (x : Int) (h : Box5 W B k s r v u) : Box5 (W.setCell ⟨B, 1, none⟩ (.int .i64 x)) B k x r v u := by
  obtain ⟨hlt, hk⟩ := Array.getElem?_eq_some_iff.1 h
  show (W.heap.modify B _)[B]? = _
  rw [Array.getElem?_eq_getElem (by rw [Array.size_modify]; exact hlt), Array.getElem_modify_self, hk]
  rfl
theorem Box5.set2 (x : Int) (h : Box5 W B k s r v u) : Box5 (W.setCell ⟨B, 2, none⟩ (.int .i64 x)) B k s x v u := by
  obtain ⟨hlt, hk⟩ := Array.getElem?_eq_some_iff.1 h
  show (W.heap.modify B _)[B]? = _
  rw [Array.getElem?_eq_getElem (by rw [Array.size_modify]; exact hlt), Array.getElem_modify_self, hk]
  rfl
theorem Box5.not_row (h : Box5 W B k s r v u) {e : TypeId} (hte : (89 : TypeId) ≠ e) {base size n : Nat} {x : Value} {xs : List Value} (hr : W.ownsRow base e size x n xs) : some B ≠ x.ownBlock := by
  rcases hr.2 with ⟨rfl, _⟩ | ⟨g, cap, cur, rfl, _, hgb, _⟩
  · simp [Value.ownBlock]
  · intro e'
    obtain rfl : B = g := by simpa [Value.ownBlock] using e'
    have := (show W.heap[B]? = _ from h).symm.trans hgb
    simp at this
    exact hte this.2
end
theorem grownBy_setCell5 (W : World) (b j : Nat) (v : Value) : W.grownBy (W.setCell ⟨b, j, none⟩ v) (some b) :=
  ⟨rfl, rfl, rfl, (KeepsWalks.setCell W _ v).size, fun k _ hk => Below.heap_setCell _ _ _ k (fun e => hk (by rw [e]))⟩
/-- The five stores of a table. -/
def st5 (W : World) (B : Nat) (k s r : Int) (v u : Value) : World := ((((W.setCell ⟨B, 0, none⟩ (.int .i64 k)).setCell ⟨B, 1, none⟩ (.int .i64 s)).setCell ⟨B, 2, none⟩ (.int .i64 r)).setCell ⟨B, 3, none⟩ v).setCell ⟨B, 4, none⟩ u
theorem Box5.st5 {W : World} {B : Nat} {k s r k' s' r' : Int} {v u v' u' : Value} (h : Box5 W B k s r v u) : Box5 (st5 W B k' s' r' v' u') B k' s' r' v' u' := Box5.set4 _ (Box5.set3 _ (Box5.set2 _ (Box5.set1 _ (Box5.set0 _ h))))
theorem st5_below {W₀ W : World} {n₀ : Nat} (B : Nat) (k s r : Int) (v u : Value) (h : Below n₀ W₀ W) (hB : n₀ ≤ B) : Below n₀ W₀ (st5 W B k s r v u) := ((((h.setCell hB _).setCell hB _).setCell hB _).setCell hB _).setCell hB _
theorem grown2 {a b c : World} {row : Option Nat} (h : a.grownBy b row) (k : b.grownBy c row) : a.grownBy c row := ⟨k.os.trans h.os, k.tape.trans h.tape, k.output.trans h.output, Nat.le_trans h.size k.size, fun q hq hne => (k.block q (Nat.lt_of_lt_of_le hq h.size) hne).trans (h.block q hq hne)⟩
theorem st5_grown (W : World) (B : Nat) (k s r : Int) (v u : Value) : W.grownBy (st5 W B k s r v u) (some B) :=
  grown2 (grown2 (grown2 (grown2 (grownBy_setCell5 _ _ _ _) (grownBy_setCell5 _ _ _ _)) (grownBy_setCell5 _ _ _ _)) (grownBy_setCell5 _ _ _ _)) (grownBy_setCell5 _ _ _ _)
theorem row_st5 {W : World} {B : Nat} {k s r k' s' r' : Int} {v u v' u' : Value} (h : Box5 W B k s r v u) {e : TypeId} (hte : (89 : TypeId) ≠ e) {base size n : Nat} {x : Value} {xs : List Value} (hr : W.ownsRow base e size x n xs) : (Go.Proofs.Ytkaekiodjjhjkaa.G.st5 W B k' s' r' v' u').ownsRow base e size x n xs :=
  hr.kept (st5_grown _ _ _ _ _ _ _) (.inr (Box5.not_row h hte hr).symm)
theorem rows_apart {W : World} {n₀ n₁ : Nat} {e e' : TypeId} {s s' n m : Nat} {v u : Value} {xs ys : List Value} (h : W.ownsRow n₀ e s v n xs) (h' : W.ownsRow n₁ e' s' u m ys) (hne : e ≠ e') : v.ownBlock = none ∨ v.ownBlock ≠ u.ownBlock := by
  rcases h.2 with ⟨rfl, _⟩ | ⟨g, cap, cur, rfl, _, hgb, _⟩
  · exact .inl rfl
  · right
    intro e1
    rcases h'.2 with ⟨rfl, _⟩ | ⟨g', cap', cur', rfl, _, hgb', _⟩
    · simp [Value.ownBlock] at e1
    · obtain rfl : g = g' := by simpa [Value.ownBlock] using e1
      have := hgb.symm.trans hgb'
      simp at this
      exact hne this.2
theorem Box5.app3 {W w1 : World} {n₀ B : Nat} {k s r : Int} {v v' u : Value} {n m q : Nat} {xs ys zs : List Value} {tmp : Obj}
    (hv : Box5 W B k s r v u) (hrow : W.ownsRow n₀ 3 1 v n xs) (hrow2 : W.ownsRow n₀ 9 1 u m ys) (hn₀ : n₀ ≤ W.heap.size) (hB : n₀ ≤ B)
    (hown' : w1.ownsRow n₀ 3 1 v' q zs) (hgrow : (W.alloc tmp).grownBy w1 v.ownBlock) :
    Box5 w1 B k s r v u ∧ Box5 (w1.setCell ⟨B, 3, none⟩ v') B k s r v' u ∧ (w1.setCell ⟨B, 3, none⟩ v').ownsRow n₀ 3 1 v' q zs ∧ (w1.setCell ⟨B, 3, none⟩ v').ownsRow n₀ 9 1 u m ys ∧ KeepsOthers W (w1.setCell ⟨B, 3, none⟩ v') ∧ Below n₀ W (w1.setCell ⟨B, 3, none⟩ v') := by
  have hv1 : Box5 w1 B k s r v u := Box5.kept (Box5.kept hv (World.grownBy_alloc W tmp none) (by simp)) hgrow (Box5.not_row hv (by decide) hrow)
  have hr1 : w1.ownsRow n₀ 9 1 u m ys := (World.ownsRow.alloc hrow2 tmp).kept hgrow (rows_apart hrow2 hrow (by decide))
  refine ⟨hv1, Box5.set3 v' hv1, hown'.kept (grownBy_setCell5 w1 B 3 v') (.inr (Box5.not_row hv1 (by decide) hown').symm), hr1.kept (grownBy_setCell5 w1 B 3 v') (.inr (Box5.not_row hv1 (by decide) hr1).symm), ?_, ?_⟩
  · refine ((KeepsOthers.alloc W tmp).trans (KeepsOthers.of_grownBy hgrow fun j o ej hj => ?_)).trans (KeepsOthers.setCell _ _ _)
    rcases (hrow.alloc tmp).2 with ⟨rfl, _⟩ | ⟨g, cap, cur, rfl, _, hgb, _⟩
    · simp [Value.ownBlock] at ej
    · obtain rfl : g = j := by simpa [Value.ownBlock] using ej
      rw [hgb] at hj; cases hj; rfl
  · exact (((Below.refl n₀ W).alloc hn₀ tmp).grown hgrow (by simp; omega) (own_base hrow)).setCell (p := ⟨B, 3, none⟩) hB v'

theorem Box5.app4 {W w1 : World} {n₀ B : Nat} {k s r : Int} {v v' u : Value} {n m q : Nat} {xs ys zs : List Value} {tmp : Obj}
    (hv : Box5 W B k s r u v) (hrow : W.ownsRow n₀ 9 1 v n xs) (hrow2 : W.ownsRow n₀ 3 1 u m ys) (hn₀ : n₀ ≤ W.heap.size) (hB : n₀ ≤ B)
    (hown' : w1.ownsRow n₀ 9 1 v' q zs) (hgrow : (W.alloc tmp).grownBy w1 v.ownBlock) :
    Box5 w1 B k s r u v ∧ Box5 (w1.setCell ⟨B, 4, none⟩ v') B k s r u v' ∧ (w1.setCell ⟨B, 4, none⟩ v').ownsRow n₀ 9 1 v' q zs ∧ (w1.setCell ⟨B, 4, none⟩ v').ownsRow n₀ 3 1 u m ys ∧ KeepsOthers W (w1.setCell ⟨B, 4, none⟩ v') ∧ Below n₀ W (w1.setCell ⟨B, 4, none⟩ v') := by
  have hv1 : Box5 w1 B k s r u v := Box5.kept (Box5.kept hv (World.grownBy_alloc W tmp none) (by simp)) hgrow (Box5.not_row hv (by decide) hrow)
  have hr1 : w1.ownsRow n₀ 3 1 u m ys := (World.ownsRow.alloc hrow2 tmp).kept hgrow (rows_apart hrow2 hrow (by decide))
  refine ⟨hv1, Box5.set4 v' hv1, hown'.kept (grownBy_setCell5 w1 B 4 v') (.inr (Box5.not_row hv1 (by decide) hown').symm), hr1.kept (grownBy_setCell5 w1 B 4 v') (.inr (Box5.not_row hv1 (by decide) hr1).symm), ?_, ?_⟩
  · refine ((KeepsOthers.alloc W tmp).trans (KeepsOthers.of_grownBy hgrow fun j o ej hj => ?_)).trans (KeepsOthers.setCell _ _ _)
    rcases (hrow.alloc tmp).2 with ⟨rfl, _⟩ | ⟨g, cap, cur, rfl, _, hgb, _⟩
    · simp [Value.ownBlock] at ej
    · obtain rfl : g = j := by simpa [Value.ownBlock] using ej
      rw [hgb] at hj; cases hj; rfl
  · exact (((Below.refl n₀ W).alloc hn₀ tmp).grown hgrow (by simp; omega) (own_base hrow)).setCell (p := ⟨B, 4, none⟩) hB v'

theorem one_newE (W : World) (B : Nat) (t : TypeId) (x : Value) (hB : B = W.heap.size) : ∀ j u, [x][j]? = some u → (W.alloc (.cells #[x] t)).cell? ((⟨B, 0, none⟩ : Addr).add j) = some u := by
  subst hB
  intro j u hj
  have hl : j < 1 := (List.getElem?_eq_some_iff.1 hj).1
  obtain rfl : j = 0 := by omega
  simp at hj
  subst hj
  rw [Addr.add_lit, Nat.zero_add]
  exact (Boxed.new W t x).cell
theorem own_slice {W : World} {n₀ e s n : Nat} {v : Value} {xs : List Value} (h : W.ownsRow n₀ e s v n xs) : ∃ a cap, v = .slice a n cap := by
  rcases h.2 with ⟨rfl, rfl⟩ | ⟨g, cap, cur, rfl, _⟩
  · exact ⟨none, 0, rfl⟩
  · exact ⟨_, cap, rfl⟩

end Go.Proofs.Ytkaekiodjjhjkaa.G
namespace Go.Proofs.Ytkaekiodjjhjkaa.G
open Go.RowKit
set_option linter.unusedSimpArgs false
set_option linter.unusedVariables false

/-- What lies in no block of S is kept. -/
structure Exc (S : Nat → Prop) (w w' : World) : Prop where
  os : w'.os = w.os
  tape : w'.tape = w.tape
  output : w'.output = w.output
  size : w.heap.size ≤ w'.heap.size
  block : ∀ k, k < w.heap.size → ¬ S k → w'.heap[k]? = w.heap[k]?
theorem Exc.refl (S : Nat → Prop) (w : World) : Exc S w w := ⟨rfl, rfl, rfl, Nat.le_refl _, fun _ _ _ => rfl⟩
theorem Exc.trans {S : Nat → Prop} {a b c : World} (h : Exc S a b) (k : Exc S b c) : Exc S a c :=
  ⟨k.os.trans h.os, k.tape.trans h.tape, k.output.trans h.output, Nat.le_trans h.size k.size, fun i hi hs => (k.block i (Nat.lt_of_lt_of_le hi h.size) hs).trans (h.block i hi hs)⟩
theorem Exc.of {S : Nat → Prop} {w w' : World} (h : Below w.heap.size w w') : Exc S w w' := ⟨h.os, h.tape, h.output, h.size, fun k hk _ => h.block k hk⟩
theorem Exc.mono {S T : Nat → Prop} {w w' : World} (h : Exc S w w') (hs : ∀ k, S k → T k) : Exc T w w' := ⟨h.os, h.tape, h.output, h.size, fun k hk ht => h.block k hk (fun e => ht (hs k e))⟩
theorem Exc.setCell {S : Nat → Prop} {a w : World} (h : Exc S a w) {p : Addr} (hp : S p.block) (u : Value) : Exc S a (w.setCell p u) :=
  h.trans ⟨rfl, rfl, rfl, by simp [World.setCell], fun k hk hs => Below.heap_setCell _ _ _ _ (by intro e; first | (subst e; exact hs hp) | (rw [e] at hs; exact hs hp) | (rw [← e] at hs; exact hs hp))⟩
theorem Exc.cell {S : Nat → Prop} {w w' : World} (h : Exc S w w') {p : Addr} (hp : p.block < w.heap.size) (hs : ¬ S p.block) : w'.cell? p = w.cell? p := World.cell?_of_block (w := w) (h.block p.block hp hs)
theorem Exc.frozen {S : Nat → Prop} {w w' : World} (h : Exc S w w') {p : Addr} (hp : p.block < w.heap.size) (hs : ¬ S p.block) : w'.frozen? p = w.frozen? p := World.frozen?_of_block (w := w) (h.block p.block hp hs)
theorem Exc.below {S : Nat → Prop} {w w' : World} {B : Nat} (h : Exc S w w') (hB : B ≤ w.heap.size) (hs : ∀ k, S k → B ≤ k) : Below B w w' := ⟨h.os, h.tape, h.output, h.size, fun k hk => h.block k (by omega) (fun e => by have := hs k e; omega)⟩
def isBlk (a : Option Addr) (k : Nat) : Prop := ∃ o, a = some ⟨k, o, none⟩
theorem ArgI.exc {S : Nat → Prop} {w w' : World} {a : Option Addr} {xs : List Int} (h : ArgI w a xs) (he : Exc S w w') (hs : ∀ k, isBlk a k → ¬ S k) : ArgI w' a xs := by
  rcases h with h | ⟨b, p, rfl, hlt, hr⟩
  · exact .inl h
  · exact .inr ⟨b, p, rfl, by have := he.size; omega, fun k hk => (he.cell hlt (hs b ⟨p, rfl⟩)).trans (hr k hk)⟩
theorem ArgS.exc {S : Nat → Prop} {w w' : World} {a : Option Addr} {xs : List ByteArray} (h : ArgS w a xs) (he : Exc S w w') (hs : ∀ k, isBlk a k → ¬ S k) : ArgS w' a xs := by
  rcases h with h | ⟨b, p, rfl, hlt, hr⟩
  · exact .inl h
  · exact .inr ⟨b, p, rfl, by have := he.size; omega, fun k hk => (he.cell hlt (hs b ⟨p, rfl⟩)).trans (hr k hk)⟩
/-- A slice of one-cell elements that may be written. -/
def Wr (w : World) (a : Option Addr) (n : Nat) : Prop := n = 0 ∨ ∃ g, a = some ⟨g, 0, none⟩ ∧ g < w.heap.size ∧ Room w g n
theorem Wr.exc {S : Nat → Prop} {w w' : World} {a : Option Addr} {n : Nat} (h : Wr w a n) (he : Exc S w w') (hs : ∀ k, isBlk a k → ¬ S k) : Wr w' a n := by
  rcases h with h | ⟨g, rfl, hlt, hr⟩
  · exact .inl h
  · exact .inr ⟨g, rfl, by have := he.size; omega, fun j hj => ⟨by obtain ⟨⟨u, hu⟩, _⟩ := hr j hj; exact ⟨u, (he.cell hlt (hs g ⟨0, rfl⟩)).trans hu⟩, (he.frozen hlt (hs g ⟨0, rfl⟩)).trans (hr j hj).2⟩⟩

/-! the text of a mark -/
theorem conv1 (w : World) (B : Nat) (x : Int) (hB : B = w.heap.size) : (convert 22 9 (.slice (some ⟨B, 0, none⟩) 1 1)).run Try.prog (w.alloc (.cells #[.int .u8 x] 5)) =
    .ok (.string (strOfNums [x])) (w.alloc (.cells #[.int .u8 x] 5)) := by
  subst hB
  refine run_convert_bytes_arg _ 22 5 Try.underlying22 Try.underlying5 w.heap.size 0 1 1 [x] rfl ?_ 9 Try.underlying9
  intro i hi
  obtain rfl : i = 0 := by omega
  simp [go_sem]
theorem ret_str {a b : ByteArray} (h : a = b) : Ending.returned (.string a) = .returned (.string b) := by rw [h]

end Go.Proofs.Ytkaekiodjjhjkaa.G
namespace Go.Proofs.Ytkaekiodjjhjkaa.G
open Go.RowKit
set_option linter.unusedSimpArgs false
set_option linter.unusedVariables false

/-- A table whose two lists are the call's own. -/
def Tab (n₀ : Nat) (w : World) (k s r : Int) (ks : List Int) (vs : List ByteArray) (V : Value) : Prop :=
  ∃ v u, V = .agg #[.int .i64 k, .int .i64 s, .int .i64 r, v, u] ∧ w.ownsRow n₀ 3 1 v ks.length (ks.map (.int .i64)) ∧ w.ownsRow n₀ 9 1 u vs.length (vs.map .string)
theorem Tab.nil (n₀ : Nat) (w : World) (k s r : Int) : Tab n₀ w k s r [] [] (.agg #[.int .i64 k, .int .i64 s, .int .i64 r, .slice none 0 0, .slice none 0 0]) := ⟨_, _, rfl, World.ownsRow_nil _ _ _ _, World.ownsRow_nil _ _ _ _⟩
theorem Tab.below {n₀ : Nat} {w w' : World} {k s r : Int} {ks : List Int} {vs : List ByteArray} {V : Value} (h : Tab n₀ w k s r ks vs V) (hb : Below w.heap.size w w') : Tab n₀ w' k s r ks vs V := by
  obtain ⟨v, u, rfl, h1, h2⟩ := h
  exact ⟨v, u, rfl, own_below h1 hb, own_below h2 hb⟩
theorem Tab.mono {n₀ n₁ : Nat} {w : World} {k s r : Int} {ks : List Int} {vs : List ByteArray} {V : Value} (h : Tab n₀ w k s r ks vs V) (hb : n₁ ≤ n₀) : Tab n₁ w k s r ks vs V := by
  obtain ⟨v, u, rfl, h1, h2⟩ := h
  exact ⟨v, u, rfl, own_mono h1 hb, own_mono h2 hb⟩
theorem own_ints {w : World} {n₀ : Nat} {v : Value} {xs : List Int} (h : w.ownsRow n₀ 3 1 v xs.length (xs.map (.int .i64))) : ∃ a c, v = .slice a xs.length c ∧ ArgI w a xs ∧ Wr w a xs.length ∧ (∀ q, isBlk a q → n₀ ≤ q ∧ q < w.heap.size ∧ v.ownBlock = some q) ∧ xs.length ≤ c := by
  have h' := h
  rcases h.2 with ⟨rfl, hn⟩ | ⟨g, cap, cur, rfl, hb, hg, hc, _⟩
  · rw [hn]; exact ⟨none, 0, rfl, .inl (List.length_eq_zero_iff.1 hn), .inl rfl, fun q ⟨o, e⟩ => (by cases e), Nat.le_refl _⟩
  · have hlt := (Array.getElem?_eq_some_iff.1 hg).1
    refine ⟨_, cap, rfl, .inr ⟨g, 0, rfl, hlt, fun k hk => ?_⟩, .inr ⟨g, rfl, hlt, room_own h'⟩, fun q ⟨o, e⟩ => ?_, hc⟩
    · rw [Nat.zero_add, h'.cellAt k (by omega)]; simp [List.getElem?_eq_getElem hk]
    · simp only [Option.some.injEq, Addr.mk.injEq, and_true] at e
      obtain ⟨rfl, rfl⟩ := e
      exact ⟨hb, hlt, rfl⟩
theorem own_strs {w : World} {n₀ : Nat} {v : Value} {xs : List ByteArray} (h : w.ownsRow n₀ 9 1 v xs.length (xs.map .string)) : ∃ a c, v = .slice a xs.length c ∧ ArgS w a xs ∧ Wr w a xs.length ∧ (∀ q, isBlk a q → n₀ ≤ q ∧ q < w.heap.size ∧ v.ownBlock = some q) := by
  have h' := h
  rcases h.2 with ⟨rfl, hn⟩ | ⟨g, cap, cur, rfl, hb, hg, _⟩
  · rw [hn]; exact ⟨none, 0, rfl, .inl (List.length_eq_zero_iff.1 hn), .inl rfl, fun q ⟨o, e⟩ => by cases e⟩
  · have hlt := (Array.getElem?_eq_some_iff.1 hg).1
    refine ⟨_, cap, rfl, .inr ⟨g, 0, rfl, hlt, fun k hk => ?_⟩, .inr ⟨g, rfl, hlt, room_own h'⟩, fun q ⟨o, e⟩ => ?_⟩
    · rw [Nat.zero_add, h'.cellAt k (by omega)]; simp [List.getElem?_eq_getElem hk]
    · simp only [Option.some.injEq, Addr.mk.injEq, and_true] at e
      obtain ⟨rfl, rfl⟩ := e
      exact ⟨hb, hlt, rfl⟩
/-- All that the law asks of a table of its own. -/
structure TabP (n₀ : Nat) (w : World) (ks : List Int) (vs : List ByteArray) (a b : Option Addr) : Prop where
  ints : ArgI w a ks
  strs : ArgS w b vs
  wi : Wr w a ks.length
  ws : Wr w b vs.length
  bi : ∀ q, isBlk a q → n₀ ≤ q ∧ q < w.heap.size
  bs : ∀ q, isBlk b q → n₀ ≤ q ∧ q < w.heap.size
  ap : ∀ q, isBlk a q → ¬ isBlk b q
theorem Tab.parts {n₀ : Nat} {w : World} {k s r : Int} {ks : List Int} {vs : List ByteArray} {V : Value} (h : Tab n₀ w k s r ks vs V) : ∃ a b c d, V = .agg #[.int .i64 k, .int .i64 s, .int .i64 r, .slice a ks.length c, .slice b vs.length d] ∧ TabP n₀ w ks vs a b := by
  obtain ⟨v, u, rfl, h1, h2⟩ := h
  have hap := rows_apart h1 h2 (by decide)
  obtain ⟨a, c, rfl, i1, i2, i3, _⟩ := own_ints h1
  obtain ⟨b, d, rfl, s1, s2, s3⟩ := own_strs h2
  refine ⟨a, b, c, d, rfl, i1, s1, i2, s2, fun q h => ⟨(i3 q h).1, (i3 q h).2.1⟩, fun q h => ⟨(s3 q h).1, (s3 q h).2.1⟩, fun q h1 h2 => ?_⟩
  have e1 := (i3 q h1).2.2
  have e2 := (s3 q h2).2.2
  rcases hap with h | h
  · rw [e1] at h; cases h
  · exact h (e1.trans e2.symm)

structure TR where
  k : Int
  s : Int
  r : Int
  ks : List Int
  vs : List ByteArray
  code : Int
open Classical in
/-- The code of a put. -/
noncomputable def codeI (k s r : Int) (ks : List Int) (key : Int) (val : ByteArray) : Int :=
  if inB key 0 4294967295 = false ∨ (val.size : Int) ≠ s then 1 else if key ∈ ks then 0 else if k = 1 then 2 else if (ks.length : Int) = r then 3 else 0
noncomputable def putT (k s r : Int) (ks : List Int) (vs : List ByteArray) (key : Int) (val : ByteArray) : TR :=
  if okB k s r ks vs = true then
    (if codeI k s r ks key val = 0 then ⟨k, s, r, (putP (ks.zip vs) key val).map Prod.fst, (putP (ks.zip vs) key val).map Prod.snd, 0⟩ else ⟨k, s, r, ks, vs, codeI k s r ks key val⟩)
  else ⟨0, 0, 0, [], [], 1⟩

end Go.Proofs.Ytkaekiodjjhjkaa.G
namespace Go.Proofs.Ytkaekiodjjhjkaa.G
open Go.RowKit
set_option linter.unusedSimpArgs false
set_option linter.unusedVariables false

theorem Box5.below {w w' : World} {B n : Nat} {k s r : Int} {v u : Value} (h : Box5 w B k s r v u) (hb : Below n w w') (hB : B < n) : Box5 w' B k s r v u := (hb.block B hB).trans h
theorem putP_length (ps : List Pr) (key : Int) (val : ByteArray) : (putP ps key val).length ≤ ps.length + 1 := by
  unfold putP
  split <;> simp [putO]
end Go.Proofs.Ytkaekiodjjhjkaa.G
