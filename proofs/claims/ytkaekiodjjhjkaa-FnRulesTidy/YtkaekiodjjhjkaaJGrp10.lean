/- Contracts of InsPut. -/
import Derived.Test.YtkaekiodjjhjkaaJGrp9
import Derived.Test.YtkaekiodjjhjkaaJGrp0
import Derived.Deep.RegionHeld3
set_option linter.unusedSimpArgs false
namespace Go.Proofs.Ytkaekiodjjhjkaa
open Go.RowKit
def fourN (n : Int) : List Int := [n % 256, n / 256 % 256, n / 65536 % 256, n / 16777216 % 256]
def headN (o d s f z : Int) : List Int := [o % 256, (d * 16 + s + 1) % 256, f % 256, z % 256]
def putS (o d s f i z : Int) : ByteArray := strOfNums (headN o d s f z ++ fourN i)
end Go.Proofs.Ytkaekiodjjhjkaa
namespace Go.Proofs.Ytkaekiodjjhjkaa
open Go.RowKit
end Go.Proofs.Ytkaekiodjjhjkaa
namespace Go.Proofs.Ytkaekiodjjhjkaa
open Go.RowKit
end Go.Proofs.Ytkaekiodjjhjkaa
namespace Go.Proofs.Ytkaekiodjjhjkaa
open Go.RowKit
end Go.Proofs.Ytkaekiodjjhjkaa
namespace Go.Proofs.Ytkaekiodjjhjkaa
open Go.RowKit
structure I6 where
 o : Int
 d : Int
 s : Int
 f : Int
 i : Int
 z : Int
def I6.ok (x : I6) : Bool := sokB x.o x.d x.s x.f x.i x.z
def InsAt (w : World) (b p : Nat) (x : I6) : Prop :=
 w.cell? ⟨b, p, none⟩ = some (.int .i64 x.o) ∧ w.cell? ⟨b, p + 1, none⟩ = some (.int .i64 x.d) ∧ w.cell? ⟨b, p + 2, none⟩ = some (.int .i64 x.s) ∧
 w.cell? ⟨b, p + 3, none⟩ = some (.int .i64 x.f) ∧ w.cell? ⟨b, p + 4, none⟩ = some (.int .i64 x.i) ∧ w.cell? ⟨b, p + 5, none⟩ = some (.int .i64 x.z)
def InsRow (w : World) (b p : Nat) (xs : List I6) : Prop := ∀ k (h : k < xs.length), InsAt w b (p + k * 6) xs[k]
theorem InsAt.below {w w' : World} {b p B : Nat} {x : I6} (h : InsAt w b p x) (hb : Below B w w') (hB : b < B) : InsAt w' b p x := by
 obtain ⟨h0, h1, h2, h3, h4, h5⟩ := h
 exact ⟨(hb.cell hB).trans h0, (hb.cell hB).trans h1, (hb.cell hB).trans h2, (hb.cell hB).trans h3, (hb.cell hB).trans h4, (hb.cell hB).trans h5⟩
theorem InsRow.below {w w' : World} {b p B : Nat} {xs : List I6} (h : InsRow w b p xs) (hb : Below B w w') (hB : b < B) : InsRow w' b p xs :=
 fun k hk => (h k hk).below hb hB
theorem ret_i64 {a b : Int} (h : a = b) : Ending.returned (.int .i64 a) = .returned (.int .i64 b) := by rw [h]
end Go.Proofs.Ytkaekiodjjhjkaa
namespace Go.Proofs.Ytkaekiodjjhjkaa
open Go.RowKit
end Go.Proofs.Ytkaekiodjjhjkaa
namespace Go.Proofs.Ytkaekiodjjhjkaa
open Go.RowKit
theorem info25 : (Try.prog.info? 86).map (fun i => (i.zero, i.size, i.bytes)) = some (some (.agg #[.int .i64 0, .int .i64 0, .int .i64 0, .int .i64 0, .int .i64 0, .int .i64 0]), 6, 48) := by kernel_rfl
def Room (w : World) (g m : Nat) : Prop := ∀ j, j < m → (∃ u, w.cell? ⟨g, j, none⟩ = some u) ∧ w.frozen? ⟨g, j, none⟩ = false
theorem Room.below {w w' : World} {g m B : Nat} (h : Room w g m) (hb : Below B w w') (hB : g < B) : Room w' g m := fun j hj => by
 obtain ⟨⟨u, hu⟩, hf⟩ := h j hj
 exact ⟨⟨u, (hb.cell hB).trans hu⟩, (hb.frozen hB).trans hf⟩
theorem Room.set {w : World} {g m : Nat} (h : Room w g m) (a : Addr) (v : Value) : Room (w.setCell a v) g m := fun j hj => by
 obtain ⟨⟨u, hu⟩, hf⟩ := h j hj
 exact ⟨cell?_setCell_some hu, by simpa using hf⟩
def st6 (w : World) (g q : Nat) (x : I6) : World :=
 (((((w.setCell ⟨g, q, none⟩ (.int .i64 x.o)).setCell ⟨g, q + 1, none⟩ (.int .i64 x.d)).setCell ⟨g, q + 2, none⟩ (.int .i64 x.s)).setCell ⟨g, q + 3, none⟩ (.int .i64 x.f)).setCell ⟨g, q + 4, none⟩ (.int .i64 x.i)).setCell ⟨g, q + 5, none⟩ (.int .i64 x.z)
theorem st6_other {w : World} {g q : Nat} {x : I6} {r : Nat} (h : r < q ∨ q + 5 < r) : (st6 w g q x).cell? ⟨g, r, none⟩ = w.cell? ⟨g, r, none⟩ := by
 unfold st6
 rw [World.cell?_setCell_other, World.cell?_setCell_other, World.cell?_setCell_other, World.cell?_setCell_other, World.cell?_setCell_other, World.cell?_setCell_other]
 all_goals (intro h'; simp at h'; try omega)
theorem InsAt.st6 {w : World} {g q r : Nat} {x y : I6} (h : InsAt w g r y) (hr : r + 6 ≤ q) : InsAt (st6 w g q x) g r y := by
 obtain ⟨h0, h1, h2, h3, h4, h5⟩ := h
 exact ⟨(st6_other (by omega)).trans h0, (st6_other (by omega)).trans h1, (st6_other (by omega)).trans h2, (st6_other (by omega)).trans h3, (st6_other (by omega)).trans h4, (st6_other (by omega)).trans h5⟩
theorem room_own {w : World} {base e g n cap : Nat} {xs : List Value} (h : w.ownsRow base e 6 (.slice (some ⟨g, 0, none⟩) n cap) n xs) : Room w g (n * 6) := fun j hj => by
 have hl := h.1
 refine ⟨⟨xs[j]'(by omega), ?_⟩, h.frozenAt j⟩
 rw [h.cellAt j hj, List.getElem?_eq_getElem (by omega)]
end Go.Proofs.Ytkaekiodjjhjkaa
namespace Go.Proofs.Ytkaekiodjjhjkaa
open Go.RowKit
def ArgRow (w : World) (a : Option Addr) (xs : List I6) : Prop := xs = [] ∨ ∃ b p, a = some ⟨b, p, none⟩ ∧ b < w.heap.size ∧ InsRow w b p xs
theorem ArgRow.below {w w' : World} {a : Option Addr} {xs : List I6} {B : Nat} (h : ArgRow w a xs) (hb : Below B w w') (hB : w.heap.size ≤ B) : ArgRow w' a xs := by
 rcases h with h | ⟨b, p, rfl, hlt, hr⟩
 ·exact .inl h
 ·exact .inr ⟨b, p, rfl, by have := hb.size; omega, hr.below hb (by omega)⟩
end Go.Proofs.Ytkaekiodjjhjkaa
namespace Go.Proofs.Ytkaekiodjjhjkaa
open Go.RowKit
def I6.put (x : I6) : ByteArray := putS x.o x.d x.s x.f x.i x.z
end Go.Proofs.Ytkaekiodjjhjkaa
namespace Go.Proofs.Ytkaekiodjjhjkaa
open Go.RowKit
def flat (xs : List I6) : List Value := xs.flatMap fun x => [.int .i64 x.o, .int .i64 x.d, .int .i64 x.s, .int .i64 x.f, .int .i64 x.i, .int .i64 x.z]
theorem flat_length (xs : List I6) : (flat xs).length = xs.length * 6 := by
 induction xs with
 | nil => rfl
 | cons x xs ih => simp [flat] at *; omega
theorem flat_snoc (xs : List I6) (x : I6) : flat (xs ++ [x]) = flat xs ++ [.int .i64 x.o, .int .i64 x.d, .int .i64 x.s, .int .i64 x.f, .int .i64 x.i, .int .i64 x.z] := by simp [flat]
end Go.Proofs.Ytkaekiodjjhjkaa
namespace Go.Proofs.Ytkaekiodjjhjkaa
open Go.RowKit
theorem own_below {w w' : World} {base e size : Nat} {v : Value} {n : Nat} {cs : List Value} (h : w.ownsRow base e size v n cs) (hb : Below w.heap.size w w') : w'.ownsRow base e size v n cs :=
 h.kept (row := none) ⟨hb.os, hb.tape, hb.output, hb.size, fun k hk _ => hb.block k hk⟩ (by cases v.ownBlock <;> simp)
theorem own_base {w : World} {base e size : Nat} {v : Value} {n : Nat} {cs : List Value} (h : w.ownsRow base e size v n cs) : ∀ k, v.ownBlock = some k → base ≤ k := by
 intro k hk
 rcases h.2 with ⟨rfl, _⟩ | ⟨g, cap, cur, rfl, hb, _⟩
 ·simp [Value.ownBlock] at hk
 ·simp [Value.ownBlock] at hk; omega
theorem news_at (w : World) (O : Obj) (x : I6) : ∀ j u, [Value.int .i64 x.o, .int .i64 x.d, .int .i64 x.s, .int .i64 x.f, .int .i64 x.i, .int .i64 x.z][j]? = some u →
 ((w.alloc O).alloc (.cells #[.int .i64 x.o, .int .i64 x.d, .int .i64 x.s, .int .i64 x.f, .int .i64 x.i, .int .i64 x.z] 86)).cell? ((⟨w.heap.size + 1, 0, none⟩ : Addr).add j) = some u := by
 intro j u hj
 have hl : j < 6 := (List.getElem?_eq_some_iff.1 hj).1
 rw [Addr.add_lit, Nat.zero_add]
 rcases (by omega : j = 0 ∨ j = 1 ∨ j = 2 ∨ j = 3 ∨ j = 4 ∨ j = 5) with rfl | rfl | rfl | rfl | rfl | rfl <;> simp at hj <;> subst hj <;> simp [go_sem]
theorem news_one (x : I6) : ∀ u ∈ [Value.int .i64 x.o, .int .i64 x.d, .int .i64 x.s, .int .i64 x.f, .int .i64 x.i, .int .i64 x.z], u.oneCell' = true := by
 intro u hu
 simp at hu
 rcases hu with rfl | rfl | rfl | rfl | rfl | rfl <;> rfl
end Go.Proofs.Ytkaekiodjjhjkaa
