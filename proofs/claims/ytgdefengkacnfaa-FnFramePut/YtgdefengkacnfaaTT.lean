/- Marks written into a table, and found again. -/
import Derived.Test.YtgdefengkacnfaaTC
import Derived.Deep.RegionHeld3
namespace Go.Proofs.Ytgdefengkacnfaa
open Go.RowKit
set_option linter.unusedSimpArgs false
set_option linter.unusedVariables false

/-- What lies in no block of S is kept. -/
structure Exc (S : Nat → Prop) (w w' : World) : Prop where
  os : w'.os = w.os
  tape : w'.tape = w.tape
  output : w'.output = w.output
  size : w.heap.size ≤ w'.heap.size
  block : ∀ k, k < w.heap.size → ¬ S k → w'.heap[k]? = w.heap[k]?
theorem Exc.refl (S : Nat → Prop) (w : World) : Exc S w w := ⟨rfl, rfl, rfl, Nat.le_refl _, fun _ _ _ => rfl⟩
theorem Exc.trans {S : Nat → Prop} {a b c : World} (h : Exc S a b) (k : Exc S b c) : Exc S a c :=
  ⟨k.os.trans h.os, k.tape.trans h.tape, k.output.trans h.output, Nat.le_trans h.size k.size, fun i hi hs => (k.block i (Nat.lt_of_lt_of_le hi h.size) hs).trans (h.block i hi hs)⟩
theorem Exc.of {S : Nat → Prop} {w w' : World} (h : Below w.heap.size w w') : Exc S w w' := ⟨h.os, h.tape, h.output, h.size, fun k hk _ => h.block k hk⟩
theorem Exc.mono {S T : Nat → Prop} {w w' : World} (h : Exc S w w') (hs : ∀ k, S k → T k) : Exc T w w' := ⟨h.os, h.tape, h.output, h.size, fun k hk ht => h.block k hk (fun e => ht (hs k e))⟩
theorem Exc.setCell {S : Nat → Prop} {a w : World} (h : Exc S a w) {p : Addr} (hp : S p.block) (u : Value) : Exc S a (w.setCell p u) :=
  h.trans ⟨rfl, rfl, rfl, by simp [World.setCell], fun k hk hs => Below.heap_setCell _ _ _ _ (by intro e; first | (subst e; exact hs hp) | (rw [e] at hs; exact hs hp) | (rw [← e] at hs; exact hs hp))⟩
theorem Exc.cell {S : Nat → Prop} {w w' : World} (h : Exc S w w') {p : Addr} (hp : p.block < w.heap.size) (hs : ¬ S p.block) : w'.cell? p = w.cell? p := World.cell?_of_block (w := w) (h.block p.block hp hs)
theorem Exc.frozen {S : Nat → Prop} {w w' : World} (h : Exc S w w') {p : Addr} (hp : p.block < w.heap.size) (hs : ¬ S p.block) : w'.frozen? p = w.frozen? p := World.frozen?_of_block (w := w) (h.block p.block hp hs)
theorem Exc.below {S : Nat → Prop} {w w' : World} {B : Nat} (h : Exc S w w') (hB : B ≤ w.heap.size) (hs : ∀ k, S k → B ≤ k) : Below B w w' := ⟨h.os, h.tape, h.output, h.size, fun k hk => h.block k (by omega) (fun e => by have := hs k e; omega)⟩
def isBlk (a : Option Addr) (k : Nat) : Prop := ∃ o, a = some ⟨k, o, none⟩
theorem ArgI.exc {S : Nat → Prop} {w w' : World} {a : Option Addr} {xs : List Int} (h : ArgI w a xs) (he : Exc S w w') (hs : ∀ k, isBlk a k → ¬ S k) : ArgI w' a xs := by
  rcases h with h | ⟨b, p, rfl, hlt, hr⟩
  · exact .inl h
  · exact .inr ⟨b, p, rfl, by have := he.size; omega, fun k hk => (he.cell hlt (hs b ⟨p, rfl⟩)).trans (hr k hk)⟩
theorem ArgS.exc {S : Nat → Prop} {w w' : World} {a : Option Addr} {xs : List ByteArray} (h : ArgS w a xs) (he : Exc S w w') (hs : ∀ k, isBlk a k → ¬ S k) : ArgS w' a xs := by
  rcases h with h | ⟨b, p, rfl, hlt, hr⟩
  · exact .inl h
  · exact .inr ⟨b, p, rfl, by have := he.size; omega, fun k hk => (he.cell hlt (hs b ⟨p, rfl⟩)).trans (hr k hk)⟩
/-- A slice of one-cell elements that may be written. -/
def Wr (w : World) (a : Option Addr) (n : Nat) : Prop := n = 0 ∨ ∃ g, a = some ⟨g, 0, none⟩ ∧ g < w.heap.size ∧ Room w g n
theorem Wr.exc {S : Nat → Prop} {w w' : World} {a : Option Addr} {n : Nat} (h : Wr w a n) (he : Exc S w w') (hs : ∀ k, isBlk a k → ¬ S k) : Wr w' a n := by
  rcases h with h | ⟨g, rfl, hlt, hr⟩
  · exact .inl h
  · exact .inr ⟨g, rfl, by have := he.size; omega, fun j hj => ⟨by obtain ⟨⟨u, hu⟩, _⟩ := hr j hj; exact ⟨u, (he.cell hlt (hs g ⟨0, rfl⟩)).trans hu⟩, (he.frozen hlt (hs g ⟨0, rfl⟩)).trans (hr j hj).2⟩⟩

/-! the text of a mark -/
def mtG : Nat → Nat → ByteArray → ByteArray
  | 0, _, out => out
  | f + 1, k, out => if k = 0 then out else mtG f (k / 10) (strOfNums [48 + (k % 10 : Nat)] ++ out)
def mtS (k : Nat) : ByteArray := ⟨#[109]⟩ ++ mtG 8 k ⟨#[]⟩
theorem conv1 (w : World) (B : Nat) (x : Int) (hB : B = w.heap.size) : (convert 22 9 (.slice (some ⟨B, 0, none⟩) 1 1)).run Try.prog (w.alloc (.cells #[.int .u8 x] 5)) =
    .ok (.string (strOfNums [x])) (w.alloc (.cells #[.int .u8 x] 5)) := by
  subst hB
  refine run_convert_bytes_arg _ 22 5 Try.underlying22 Try.underlying5 w.heap.size 0 1 1 [x] rfl ?_ 9 Try.underlying9
  intro i hi
  obtain rfl : i = 0 := by omega
  simp [go_sem]
theorem ret_str {a b : ByteArray} (h : a = b) : Ending.returned (.string a) = .returned (.string b) := by rw [h]

set_option maxRecDepth 100000 in
set_option maxHeartbeats 2000000 in
theorem f59 (k0 : Nat) (w : World) (h1 : 1 ≤ k0) (h2 : k0 ≤ 10000000) :
    Calls Try.prog 26 #[.int .i64 k0] w fun e w' => e = .returned (.string (mtS k0)) ∧ Below w.heap.size w w' := by
  have hk := conv1
  have hz0 : ¬ (k0 = 0) := by omega
  have hsn := strOfNums_size
  have hone : ∀ x : Int, ([x] : List Int).length = 1 := fun _ => rfl
  go_enter Try.func26, Try.ntmps26
  go_wp2_with fail
  go_loopw [0, 3] (fun kk oo wr => ∃ (k f : Nat) (out : ByteArray), kk = .int .i64 k ∧ oo = .string out ∧ mtG 8 k0 ⟨#[]⟩ = mtG f k out ∧ k < 10 ^ f ∧ k ≤ 10000000 ∧ out.size + f = 8 ∧ Below w.heap.size w wr) (fun kk _ _ => (intOf kk).toNat)
  case atStart => exact ⟨k0, 8, ⟨#[]⟩, rfl, rfl, rfl, by omega, h2, rfl, Below.refl _ _⟩
  case round =>
    obtain ⟨k, f, out, rfl, rfl, heq, hf, hk0, hsz, hbw⟩ := hrel
    have HE : Hid _ := heq
    clear heq
    by_cases hp : 0 < k
    · have hp' : (0 : Int) < (k : Int) := by omega
      have HF : Hid _ := hf
      clear hf
      have hout : out.size ≤ 8 := by omega
      have hstep : mtG f k out = mtG (f - 1) (k / 10) (strOfNums [48 + (k % 10 : Nat)] ++ out) := by
        cases f with
        | zero => have := HF.out; simp at this; omega
        | succ f => rw [mtG, if_neg (by omega)]; rfl
      have hf1 : k / 10 < 10 ^ (f - 1) := by
        cases f with
        | zero => have := HF.out; simp at this; omega
        | succ f => have := HF.out; rw [Nat.pow_succ] at this; simp; omega
      have hff : 1 ≤ f := by
        cases f with
        | zero => have := HF.out; simp at this; omega
        | succ f => omega
      have HS : Hid _ := hstep
      have H1 : Hid _ := hf1
      clear hstep hf1
      go_wp2_with fail
      go_roundw
      case rel => exact ⟨k / 10, f - 1, strOfNums [48 + (k % 10 : Nat)] ++ out, by simp, by simp, by rw [HE.out, HS.out], H1.out, by omega, by rw [ByteArray.size_append, strOfNums_size]; simp; omega, hbw.alloc hbw.size _⟩
      case measure => simp [intOf]; omega
    · obtain rfl : k = 0 := by omega
      have HF : Hid _ := hf
      clear hf
      go_wp2_with fail
      go_ret
      refine ⟨ret_str ?_, hbw⟩
      unfold mtS
      rw [HE.out]
      cases f <;> rfl

end Go.Proofs.Ytgdefengkacnfaa
