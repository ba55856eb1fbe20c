/- Marks written into a table, and found again. -/
import Derived.Test.YtkaekiodjjhjkaaJGrp0
import Derived.Deep.RegionHeld3
set_option linter.unusedSimpArgs false
set_option linter.unusedVariables false
namespace Go.Proofs.Ytkaekiodjjhjkaa.G
open Go.RowKit
structure Exc (S : Nat → Prop) (w w' : World) : Prop where
 os : w'.os = w.os
 tape : w'.tape = w.tape
 output : w'.output = w.output
 size : w.heap.size ≤ w'.heap.size
 block : ∀ k, k < w.heap.size → ¬ S k → w'.heap[k]? = w.heap[k]?
theorem Exc.refl (S : Nat → Prop) (w : World) : Exc S w w := ⟨rfl, rfl, rfl, Nat.le_refl _, fun _ _ _ => rfl⟩
theorem Exc.trans {S : Nat → Prop} {a b c : World} (h : Exc S a b) (k : Exc S b c) : Exc S a c :=
 ⟨k.os.trans h.os, k.tape.trans h.tape, k.output.trans h.output, Nat.le_trans h.size k.size, fun i hi hs => (k.block i (Nat.lt_of_lt_of_le hi h.size) hs).trans (h.block i hi hs)⟩
theorem Exc.of {S : Nat → Prop} {w w' : World} (h : Below w.heap.size w w') : Exc S w w' := ⟨h.os, h.tape, h.output, h.size, fun k hk _ => h.block k hk⟩
theorem Exc.mono {S T : Nat → Prop} {w w' : World} (h : Exc S w w') (hs : ∀ k, S k → T k) : Exc T w w' := ⟨h.os, h.tape, h.output, h.size, fun k hk ht => h.block k hk (fun e => ht (hs k e))⟩
theorem Exc.setCell {S : Nat → Prop} {a w : World} (h : Exc S a w) {p : Addr} (hp : S p.block) (u : Value) : Exc S a (w.setCell p u) :=
 h.trans ⟨rfl, rfl, rfl, by simp [World.setCell], fun k hk hs => Below.heap_setCell _ _ _ _ (by intro e; first | (subst e; exact hs hp) | (rw [e] at hs; exact hs hp) | (rw [← e] at hs; exact hs hp))⟩
theorem Exc.cell {S : Nat → Prop} {w w' : World} (h : Exc S w w') {p : Addr} (hp : p.block < w.heap.size) (hs : ¬ S p.block) : w'.cell? p = w.cell? p := World.cell?_of_block (w := w) (h.block p.block hp hs)
theorem Exc.frozen {S : Nat → Prop} {w w' : World} (h : Exc S w w') {p : Addr} (hp : p.block < w.heap.size) (hs : ¬ S p.block) : w'.frozen? p = w.frozen? p := World.frozen?_of_block (w := w) (h.block p.block hp hs)
theorem Exc.below {S : Nat → Prop} {w w' : World} {B : Nat} (h : Exc S w w') (hB : B ≤ w.heap.size) (hs : ∀ k, S k → B ≤ k) : Below B w w' := ⟨h.os, h.tape, h.output, h.size, fun k hk => h.block k (by omega) (fun e => by have := hs k e; omega)⟩
def isBlk (a : Option Addr) (k : Nat) : Prop := ∃ o, a = some ⟨k, o, none⟩
theorem ArgI.exc {S : Nat → Prop} {w w' : World} {a : Option Addr} {xs : List Int} (h : ArgI w a xs) (he : Exc S w w') (hs : ∀ k, isBlk a k → ¬ S k) : ArgI w' a xs := by
 rcases h with h | ⟨b, p, rfl, hlt, hr⟩
 ·exact .inl h
 ·exact .inr ⟨b, p, rfl, by have := he.size; omega, fun k hk => (he.cell hlt (hs b ⟨p, rfl⟩)).trans (hr k hk)⟩
theorem ArgS.exc {S : Nat → Prop} {w w' : World} {a : Option Addr} {xs : List ByteArray} (h : ArgS w a xs) (he : Exc S w w') (hs : ∀ k, isBlk a k → ¬ S k) : ArgS w' a xs := by
 rcases h with h | ⟨b, p, rfl, hlt, hr⟩
 ·exact .inl h
 ·exact .inr ⟨b, p, rfl, by have := he.size; omega, fun k hk => (he.cell hlt (hs b ⟨p, rfl⟩)).trans (hr k hk)⟩
def Wr (w : World) (a : Option Addr) (n : Nat) : Prop := n = 0 ∨ ∃ g, a = some ⟨g, 0, none⟩ ∧ g < w.heap.size ∧ Room w g n
theorem Wr.exc {S : Nat → Prop} {w w' : World} {a : Option Addr} {n : Nat} (h : Wr w a n) (he : Exc S w w') (hs : ∀ k, isBlk a k → ¬ S k) : Wr w' a n := by
 rcases h with h | ⟨g, rfl, hlt, hr⟩
 ·exact .inl h
 ·exact .inr ⟨g, rfl, by have := he.size; omega, fun j hj => ⟨by obtain ⟨⟨u, hu⟩, _⟩ := hr j hj; exact ⟨u, (he.cell hlt (hs g ⟨0, rfl⟩)).trans hu⟩, (he.frozen hlt (hs g ⟨0, rfl⟩)).trans (hr j hj).2⟩⟩
theorem conv1 (w : World) (B : Nat) (x : Int) (hB : B = w.heap.size) : (convert 22 9 (.slice (some ⟨B, 0, none⟩) 1 1)).run Try.prog (w.alloc (.cells #[.int .u8 x] 5)) =
 .ok (.string (strOfNums [x])) (w.alloc (.cells #[.int .u8 x] 5)) := by
 subst hB
 refine run_convert_bytes_arg _ 22 5 Try.underlying22 Try.underlying5 w.heap.size 0 1 1 [x] rfl ?_ 9 Try.underlying9
 intro i hi
 obtain rfl : i = 0 := by omega
 simp [go_sem]
theorem ret_str {a b : ByteArray} (h : a = b) : Ending.returned (.string a) = .returned (.string b) := by rw [h]
end Go.Proofs.Ytkaekiodjjhjkaa.G
namespace Go.Proofs.Ytkaekiodjjhjkaa.G
open Go.RowKit
end Go.Proofs.Ytkaekiodjjhjkaa.G
namespace Go.Proofs.Ytkaekiodjjhjkaa.G
open Go.RowKit
end Go.Proofs.Ytkaekiodjjhjkaa.G
namespace Go.Proofs.Ytkaekiodjjhjkaa.G
open Go.RowKit
end Go.Proofs.Ytkaekiodjjhjkaa.G
