/- ProgGet: the walks. -/
import Derived.Test.YtbbecofgmodfiaaGreatDoorPGet
namespace Go.Proofs.YtbbecofgmodfiaaGreatDoor
open Go.RowKit
set_option linter.unusedSimpArgs false

/-- What a call of ProgGet leaves: nothing and false; or a new list, and true. -/
def PRes (w w' : World) (r : Option (List I6)) (v : Value) : Prop := match r with
  | none => v = .tuple #[.slice none 0 0, .bool false]
  | some xs => ∃ g cap, v = .tuple #[.slice (some ⟨g, 0, none⟩) xs.length cap, .bool true] ∧ w.heap.size ≤ g ∧ g < w'.heap.size ∧ InsRow w' g 0 xs ∧ Room w' g (xs.length * 6)

theorem own_below {w w' : World} {base e size : Nat} {v : Value} {n : Nat} {cs : List Value} (h : w.ownsRow base e size v n cs) (hb : Below w.heap.size w w') : w'.ownsRow base e size v n cs :=
  h.kept (row := none) ⟨hb.os, hb.tape, hb.output, hb.size, fun k hk _ => hb.block k hk⟩ (by cases v.ownBlock <;> simp)
theorem own_base {w : World} {base e size : Nat} {v : Value} {n : Nat} {cs : List Value} (h : w.ownsRow base e size v n cs) : ∀ k, v.ownBlock = some k → base ≤ k := by
  intro k hk
  rcases h.2 with ⟨rfl, _⟩ | ⟨g, cap, cur, rfl, hb, _⟩
  · simp [Value.ownBlock] at hk
  · simp [Value.ownBlock] at hk; omega
theorem news_at (w : World) (O : Obj) (x : I6) : ∀ j u, [Value.int .i64 x.o, .int .i64 x.d, .int .i64 x.s, .int .i64 x.f, .int .i64 x.i, .int .i64 x.z][j]? = some u →
    ((w.alloc O).alloc (.cells #[.int .i64 x.o, .int .i64 x.d, .int .i64 x.s, .int .i64 x.f, .int .i64 x.i, .int .i64 x.z] 24)).cell? ((⟨w.heap.size + 1, 0, none⟩ : Addr).add j) = some u := by
  intro j u hj
  have hl : j < 6 := (List.getElem?_eq_some_iff.1 hj).1
  rw [Addr.add_lit, Nat.zero_add]
  rcases (by omega : j = 0 ∨ j = 1 ∨ j = 2 ∨ j = 3 ∨ j = 4 ∨ j = 5) with rfl | rfl | rfl | rfl | rfl | rfl <;> simp at hj <;> subst hj <;> simp [go_sem]
theorem news_one (x : I6) : ∀ u ∈ [Value.int .i64 x.o, .int .i64 x.d, .int .i64 x.s, .int .i64 x.f, .int .i64 x.i, .int .i64 x.z], u.oneCell' = true := by
  intro u hu
  simp at hu
  rcases hu with rfl | rfl | rfl | rfl | rfl | rfl <;> rfl
theorem form_nil : formN [] = 4 := rfl
theorem pres_end {w w1 w2 : World} {a : Option Addr} {cap : Nat} {xs : List I6} {r : Option (List I6)} (hown : w1.ownsRow w.heap.size 24 6 (.slice a xs.length cap) xs.length (flat xs)) (hb : Below w1.heap.size w1 w2) (hf : formN xs = 0) (hr : r = some xs) :
    PRes w w2 r (.tuple #[.slice a xs.length cap, .bool true]) := by
  subst hr
  rcases own_row hown with ⟨rfl, _⟩ | ⟨g, cap', hv, h1, h2, h3, h4⟩
  · rw [form_nil] at hf; cases hf
  · simp only [Value.slice.injEq, true_and] at hv
    obtain ⟨rfl, rfl⟩ := hv
    exact ⟨g, cap, rfl, h1, by have := hb.size; omega, h3.below hb h2, Room.below h4 hb h2⟩

theorem own_empty (w : World) : (w.alloc (.cells #[] 24)).ownsRow w.heap.size 24 6 (.slice (some ⟨w.heap.size, 0, none⟩) 0 0) 0 [] := by
  refine ⟨rfl, .inr ⟨w.heap.size, 0, #[], rfl, Nat.le_refl _, ?_, Nat.le_refl _, by simp, rfl, rfl⟩⟩
  show (w.heap.push _)[w.heap.size]? = _
  simp

end Go.Proofs.YtbbecofgmodfiaaGreatDoor
