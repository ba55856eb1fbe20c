/- The list of pairs, as it lies in memory, and its iterator. -/
import Derived.RangeFuncNested
import Derived.RangeFuncBound
import Derived.RangeFuncCalls
import Derived.RangeFuncLeaves
import Derived.RangeFuncBox
import Derived.Shelf.Abstract
import Derived.WalkKit
import Derived.OwnWalkIn
import Derived.TacticsInMore
import Derived.LoopNIn
import Derived.LoopIn
import Derived.Test.YtkaekiodjjhjkaaJGrp0
set_option linter.unusedSimpArgs false
namespace Go.Proofs.Ytkaekiodjjhjkaa.G
open Go.RowKit Go.Shelf
attribute [local go_sem] Oper.semAt_some
abbrev Pr := Int × ByteArray
def PairAt (w : World) (b p : Nat) (x : Pr) : Prop := w.cell? ⟨b, p, none⟩ = some (.int .i64 x.1) ∧ w.cell? ⟨b, p + 1, none⟩ = some (.string x.2)
def PairRow (w : World) (b p : Nat) (ps : List Pr) : Prop := ∀ k (h : k < ps.length), PairAt w b (p + k * 2) ps[k]
def ArgP (n₀ : Nat) (w : World) (a : Option Addr) (ps : List Pr) : Prop := ps = [] ∨ ∃ b p, a = some ⟨b, p, none⟩ ∧ b < n₀ ∧ PairRow w b p ps
theorem ArgP.below {n₀ : Nat} {w w' : World} {a : Option Addr} {ps : List Pr} (h : ArgP n₀ w a ps) (hb : Below n₀ w w') : ArgP n₀ w' a ps := by
 rcases h with h | ⟨b, p, rfl, hlt, hr⟩
 ·exact .inl h
 ·exact .inr ⟨b, p, rfl, hlt, fun k hk => ⟨(hb.cell hlt).trans (hr k hk).1, (hb.cell hlt).trans (hr k hk).2⟩⟩
end Go.Proofs.Ytkaekiodjjhjkaa.G
namespace Go.Proofs.Ytkaekiodjjhjkaa.G
open Go.RowKit Go.Shelf
attribute [local go_sem] Oper.semAt_some
end Go.Proofs.Ytkaekiodjjhjkaa.G
namespace Go.Proofs.Ytkaekiodjjhjkaa.G
open Go.RowKit Go.Shelf
attribute [local go_sem] Oper.semAt_some
structure Win (lo hi : Nat) (W W' : World) : Prop where
 size : W.heap.size ≤ W'.heap.size
 block : ∀ b, lo ≤ b → b < hi → W'.heap[b]? = W.heap[b]?
theorem Win.refl (lo hi : Nat) (W : World) : Win lo hi W W := ⟨Nat.le_refl _, fun _ _ _ => rfl⟩
theorem Win.trans {lo hi : Nat} {A B C : World} (h : Win lo hi A B) (k : Win lo hi B C) : Win lo hi A C := ⟨Nat.le_trans h.size k.size, fun b h1 h2 => (k.block b h1 h2).trans (h.block b h1 h2)⟩
theorem Win.of {lo hi n : Nat} {W W' : World} (h : Below n W W') (hn : hi ≤ n) : Win lo hi W W' := ⟨h.size, fun b _ h2 => h.block b (by omega)⟩
theorem Win.alloc {lo hi : Nat} {A W : World} (h : Win lo hi A W) (hw : hi ≤ W.heap.size) (X : Obj) : Win lo hi A (W.alloc X) := h.trans (Win.of ((Below.refl _ _).alloc (Nat.le_refl _) _) hw)
theorem Win.setCell {lo hi : Nat} {A W : World} (h : Win lo hi A W) {p : Addr} (hp : p.block < lo) (u : Value) : Win lo hi A (W.setCell p u) := h.trans ⟨by simp [World.setCell], fun k h1 h2 => Below.heap_setCell _ _ _ _ (by omega)⟩
theorem Win.cell {lo hi : Nat} {W W' : World} (h : Win lo hi W W') {p : Addr} (h1 : lo ≤ p.block) (h2 : p.block < hi) : W'.cell? p = W.cell? p := World.cell?_of_block (w := W) (h.block p.block h1 h2)
def ArgW (lo hi : Nat) (w : World) (a : Option Addr) (ps : List Pr) : Prop := ps = [] ∨ ∃ b p, a = some ⟨b, p, none⟩ ∧ lo ≤ b ∧ b < hi ∧ PairRow w b p ps
theorem ArgW.below {lo hi : Nat} {w w' : World} {a : Option Addr} {ps : List Pr} (h : ArgW lo hi w a ps) (hb : Win lo hi w w') : ArgW lo hi w' a ps := by
 rcases h with h | ⟨b, p, rfl, h1, hlt, hr⟩
 ·exact .inl h
 ·exact .inr ⟨b, p, rfl, h1, hlt, fun k hk => ⟨(hb.cell h1 hlt).trans (hr k hk).1, (hb.cell h1 hlt).trans (hr k hk).2⟩⟩
end Go.Proofs.Ytkaekiodjjhjkaa.G
