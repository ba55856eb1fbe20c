/- The iterator once more, for a body that writes below the list: what lies from lo to hi is kept. -/
import Derived.RangeFuncNested
import Derived.RangeFuncBound
import Derived.RangeFuncCalls
import Derived.RangeFuncLeaves
import Derived.RangeFuncBox
import Derived.Shelf.Abstract
import Derived.WalkKit
import Derived.OwnWalkIn
import Derived.TacticsInMore
import Derived.LoopNIn
import Derived.LoopIn
import Derived.Test.YtkaekiodjjhjkaaQGrp7
import Derived.Test.YtkaekiodjjhjkaaQUO
import Derived.Test.YtkaekiodjjhjkaaQUJ
import Derived.Test.YtkaekiodjjhjkaaQUH
import Derived.Test.YtkaekiodjjhjkaaQTM
import Derived.Test.YtkaekiodjjhjkaaQGrp2
import Derived.Test.YtkaekiodjjhjkaaQPN
namespace Go.Proofs.Ytkaekiodjjhjkaa.G
open Go.RowKit Go.Shelf
set_option linter.unusedSimpArgs false
attribute [local go_sem] Oper.semAt_some

/-- What lies from lo to hi is kept. -/
structure Win (lo hi : Nat) (W W' : World) : Prop where
  size : W.heap.size ≤ W'.heap.size
  block : ∀ b, lo ≤ b → b < hi → W'.heap[b]? = W.heap[b]?
theorem Win.refl (lo hi : Nat) (W : World) : Win lo hi W W := ⟨Nat.le_refl _, fun _ _ _ => rfl⟩
theorem Win.trans {lo hi : Nat} {A B C : World} (h : Win lo hi A B) (k : Win lo hi B C) : Win lo hi A C := ⟨Nat.le_trans h.size k.size, fun b h1 h2 => (k.block b h1 h2).trans (h.block b h1 h2)⟩
theorem Win.of {lo hi n : Nat} {W W' : World} (h : Below n W W') (hn : hi ≤ n) : Win lo hi W W' := ⟨h.size, fun b _ h2 => h.block b (by omega)⟩
theorem Win.alloc {lo hi : Nat} {A W : World} (h : Win lo hi A W) (hw : hi ≤ W.heap.size) (X : Obj) : Win lo hi A (W.alloc X) := h.trans (Win.of ((Below.refl _ _).alloc (Nat.le_refl _) _) hw)
theorem Win.setCell {lo hi : Nat} {A W : World} (h : Win lo hi A W) {p : Addr} (hp : p.block < lo) (u : Value) : Win lo hi A (W.setCell p u) := h.trans ⟨by simp [World.setCell], fun k h1 h2 => Below.heap_setCell _ _ _ _ (by omega)⟩
theorem Win.cell {lo hi : Nat} {W W' : World} (h : Win lo hi W W') {p : Addr} (h1 : lo ≤ p.block) (h2 : p.block < hi) : W'.cell? p = W.cell? p := World.cell?_of_block (w := W) (h.block p.block h1 h2)
/-- A value of the type pairs, whose row lies from lo to hi. -/
def ArgW (lo hi : Nat) (w : World) (a : Option Addr) (ps : List Pr) : Prop := ps = [] ∨ ∃ b p, a = some ⟨b, p, none⟩ ∧ lo ≤ b ∧ b < hi ∧ PairRow w b p ps
theorem ArgW.below {lo hi : Nat} {w w' : World} {a : Option Addr} {ps : List Pr} (h : ArgW lo hi w a ps) (hb : Win lo hi w w') : ArgW lo hi w' a ps := by
  rcases h with h | ⟨b, p, rfl, h1, hlt, hr⟩
  · exact .inl h
  · exact .inr ⟨b, p, rfl, h1, hlt, fun k hk => ⟨(hb.cell h1 hlt).trans (hr k hk).1, (hb.cell h1 hlt).trans (hr k hk).2⟩⟩

end Go.Proofs.Ytkaekiodjjhjkaa.G
namespace Go.Proofs.Ytkaekiodjjhjkaa.G
open Go.RowKit
set_option linter.unusedSimpArgs false
set_option linter.unusedVariables false

theorem _root_.Go.RowKit.Below.to {w w1 w2 : World} (h : Below w.heap.size w w1) (h2 : Below w1.heap.size w1 w2) : Below w.heap.size w w2 := h.trans (h2.mono h.size)

/-- Both lists of a table are rows of their own, or nil. -/
def RW (w : World) (ks : List Int) (vs : List ByteArray) (a b : Option Addr) (c d : Nat) : Prop :=
  w.ownsRow 0 3 1 (.slice a ks.length c) ks.length (ks.map (.int .i64)) ∧ w.ownsRow 0 9 1 (.slice b vs.length d) vs.length (vs.map .string)
section
variable {w w' : World} {ks : List Int} {vs : List ByteArray} {a b : Option Addr} {c d : Nat}
theorem RW.below (h : RW w ks vs a b c d) (hb : Below w.heap.size w w') : RW w' ks vs a b c d := ⟨own_below h.1 hb, own_below h.2 hb⟩
theorem RW.alloc (h : RW w ks vs a b c d) (X : Obj) : RW (w.alloc X) ks vs a b c d := h.below ((Below.refl _ _).alloc (Nat.le_refl _) _)
theorem RW.I (h : RW w ks vs a b c d) : ArgI w a ks := own_ints' h.1
theorem RW.S (h : RW w ks vs a b c d) : ArgS w b vs := own_strs' h.2
theorem RW.cap (h : RW w ks vs a b c d) : ks.length ≤ c := by
  obtain ⟨a', c', e, _, _, _, hc⟩ := own_ints h.1
  cases e
  exact hc
end
theorem Tab.rw {n₀ : Nat} {w : World} {k s r : Int} {ks : List Int} {vs : List ByteArray} {V : Value} (h : Tab n₀ w k s r ks vs V) : ∃ a b c d, V = .agg #[.int .i64 k, .int .i64 s, .int .i64 r, .slice a ks.length c, .slice b vs.length d] ∧ RW w ks vs a b c d := by
  obtain ⟨v, u, rfl, h1, h2⟩ := h
  obtain ⟨a, c, rfl⟩ := own_slice h1
  obtain ⟨b, d, rfl⟩ := own_slice h2
  exact ⟨a, b, c, d, rfl, own_mono h1 (Nat.zero_le _), own_mono h2 (Nat.zero_le _)⟩

/-- A table in a box. -/
structure TB (w : World) (B : Nat) (k s r : Int) (ks : List Int) (vs : List ByteArray) (a b : Option Addr) (c d : Nat) : Prop where
  box : B5 89 w B k s r (.slice a ks.length c) (.slice b vs.length d)
  rw : RW w ks vs a b c d
section
variable {w w' : World} {B : Nat} {k s r : Int} {ks : List Int} {vs : List ByteArray} {a b : Option Addr} {c d : Nat}
theorem TB.below (h : TB w B k s r ks vs a b c d) (hb : Below w.heap.size w w') : TB w' B k s r ks vs a b c d := ⟨(hb.block B (B5.lt h.box)).trans h.box, h.rw.below hb⟩
theorem TB.alloc (h : TB w B k s r ks vs a b c d) (X : Obj) : TB (w.alloc X) B k s r ks vs a b c d := h.below ((Below.refl _ _).alloc (Nat.le_refl _) _)
theorem TB.drew (h : TB w B k s r ks vs a b c d) : TB w.drew B k s r ks vs a b c d := h.below (Below.refl _ _).drew
theorem TB.lt (h : TB w B k s r ks vs a b c d) : B < w.heap.size := B5.lt h.box
theorem TB.cl (h : TB w B k s r ks vs a b c d) : w.cell? ⟨B, 0, none⟩ = some (.int .i64 k) ∧ w.cell? ⟨B, 1, none⟩ = some (.int .i64 s) ∧ w.cell? ⟨B, 2, none⟩ = some (.int .i64 r) ∧ w.cell? ⟨B, 3, none⟩ = some (.slice a ks.length c) ∧ w.cell? ⟨B, 4, none⟩ = some (.slice b vs.length d) := B5.cells h.box
theorem TB.new (h : RW w ks vs a b c d) (k s r : Int) : TB (w.alloc (.cells #[.int .i64 k, .int .i64 s, .int .i64 r, .slice a ks.length c, .slice b vs.length d] 89)) w.heap.size k s r ks vs a b c d := ⟨B5.new w _ k s r _ _, h.alloc _⟩
end
end Go.Proofs.Ytkaekiodjjhjkaa.G
