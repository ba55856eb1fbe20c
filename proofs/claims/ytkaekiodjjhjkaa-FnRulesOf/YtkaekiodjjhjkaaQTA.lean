/- Leaves, rows of integers and of texts, and how an argument of these kinds lies in memory. -/
import Derived.Test.YtkaekiodjjhjkaaRows
import Derived.WalkKit
import Derived.WalkSpells
import Derived.WalkLawsBesides
import Derived.BigQuiet
import Derived.Deep.QuietTactic
namespace Go.Proofs.Ytkaekiodjjhjkaa.G
open Go.RowKit
set_option linter.unusedSimpArgs false

theorem ret_bool {a b : Bool} (h : a = b) : Ending.returned (.bool a) = .returned (.bool b) := by rw [h]
theorem ret_i64 {a b : Int} (h : a = b) : Ending.returned (.int .i64 a) = .returned (.int .i64 b) := by rw [h]
theorem bcell {W w1 : World} (hb : Below W.heap.size W w1) : (∀ b o, b < W.heap.size → w1.cell? ⟨b, o, none⟩ = W.cell? ⟨b, o, none⟩) ∧ (∀ b o, b < W.heap.size → w1.frozen? ⟨b, o, none⟩ = W.frozen? ⟨b, o, none⟩) :=
  ⟨fun b o h => hb.cell (p := ⟨b, o, none⟩) h, fun b o h => hb.frozen (p := ⟨b, o, none⟩) h⟩

def inB (n a b : Int) : Bool := decide (a ≤ n) && decide (n ≤ b)
def shapeB (k s r : Int) : Bool := inB k 1 2 && inB s 1 8 && inB r 1 8

set_option maxHeartbeats 400000 in
theorem f36 (n a b : Int) (w : World) :
    Calls Try.prog 56 #[.int .i64 n, .int .i64 a, .int .i64 b] w fun e w' => e = .returned (.bool (inB n a b)) ∧ w' = w := by
  go_enter Try.func56, Try.ntmps56
  go_wp2
  all_goals (go_ret; exact ⟨ret_bool (by rw [Bool.eq_iff_iff]; simp [inB]; omega), rfl⟩)
set_option maxHeartbeats 400000 in
theorem f48 (w : World) : Calls Try.prog 46 #[] w fun e w' => e = .returned (.int .i64 4294967295) ∧ w' = w := by
  go_enter Try.func46, Try.ntmps46
  go_wp2
  go_ret
  exact ⟨rfl, rfl⟩
def IntRow (w : World) (b p : Nat) (ks : List Int) : Prop := ∀ k (h : k < ks.length), w.cell? ⟨b, p + k, none⟩ = some (.int .i64 ks[k])
def StrRow (w : World) (b p : Nat) (ss : List ByteArray) : Prop := ∀ k (h : k < ss.length), w.cell? ⟨b, p + k, none⟩ = some (.string ss[k])
theorem IntRow.below {w w' : World} {b p B : Nat} {xs : List Int} (h : IntRow w b p xs) (hb : Below B w w') (hB : b < B) : IntRow w' b p xs := fun k hk => (hb.cell hB).trans (h k hk)
theorem StrRow.below {w w' : World} {b p B : Nat} {xs : List ByteArray} (h : StrRow w b p xs) (hb : Below B w w') (hB : b < B) : StrRow w' b p xs := fun k hk => (hb.cell hB).trans (h k hk)
def ArgI (w : World) (a : Option Addr) (xs : List Int) : Prop := xs = [] ∨ ∃ b p, a = some ⟨b, p, none⟩ ∧ b < w.heap.size ∧ IntRow w b p xs
def ArgS (w : World) (a : Option Addr) (xs : List ByteArray) : Prop := xs = [] ∨ ∃ b p, a = some ⟨b, p, none⟩ ∧ b < w.heap.size ∧ StrRow w b p xs
theorem ArgI.below {w w' : World} {a : Option Addr} {xs : List Int} {B : Nat} (h : ArgI w a xs) (hb : Below B w w') (hB : w.heap.size ≤ B) : ArgI w' a xs := by
  rcases h with h | ⟨b, p, rfl, hlt, hr⟩
  · exact .inl h
  · exact .inr ⟨b, p, rfl, by have := hb.size; omega, hr.below hb (by omega)⟩
theorem ArgS.below {w w' : World} {a : Option Addr} {xs : List ByteArray} {B : Nat} (h : ArgS w a xs) (hb : Below B w w') (hB : w.heap.size ≤ B) : ArgS w' a xs := by
  rcases h with h | ⟨b, p, rfl, hlt, hr⟩
  · exact .inl h
  · exact .inr ⟨b, p, rfl, by have := hb.size; omega, hr.below hb (by omega)⟩
/-- The cell that stands at place k. -/
theorem ArgI.at {w : World} {a : Option Addr} {xs : List Int} (h : ArgI w a xs) (k : Nat) (hk : k < xs.length) : ∃ b p, a = some ⟨b, p, none⟩ ∧ b < w.heap.size ∧ w.cell? ⟨b, p + k, none⟩ = some (.int .i64 xs[k]) := by
  rcases h with rfl | ⟨b, p, rfl, hlt, hr⟩
  · simp at hk
  · exact ⟨b, p, rfl, hlt, hr k hk⟩
theorem ArgS.at {w : World} {a : Option Addr} {xs : List ByteArray} (h : ArgS w a xs) (k : Nat) (hk : k < xs.length) : ∃ b p, a = some ⟨b, p, none⟩ ∧ b < w.heap.size ∧ w.cell? ⟨b, p + k, none⟩ = some (.string xs[k]) := by
  rcases h with rfl | ⟨b, p, rfl, hlt, hr⟩
  · simp at hk
  · exact ⟨b, p, rfl, hlt, hr k hk⟩

/-! sizes -/
end Go.Proofs.Ytkaekiodjjhjkaa.G
