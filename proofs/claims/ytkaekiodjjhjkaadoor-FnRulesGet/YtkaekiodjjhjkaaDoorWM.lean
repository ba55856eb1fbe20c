/- Rules: when they are ok, how they are written. -/
import Derived.Test.YtkaekiodjjhjkaaDoorWD0
namespace Go.Proofs.YtkaekiodjjhjkaaDoor
open Go.RowKit
set_option linter.unusedVariables false
set_option linter.unusedSimpArgs false
/-- A rule. -/
structure Ru where
  at_ : Int
  op : Int
  num : Int
  ver : Int
  key : Int
def Ru.arr (r : Ru) : Array Value := #[.int .i64 r.at_, .int .i64 r.op, .int .i64 r.num, .int .i64 r.ver, .int .i64 r.key]
theorem Ru.one (r : Ru) : r.arr.all (·.oneCell') = true := by kernel_rfl
def inR (n lo hi : Int) : Bool := decide (n ≥ lo) && decide (n ≤ hi)
theorem inR_yes {n lo hi : Int} (h : inR n lo hi = true) : lo ≤ n ∧ n ≤ hi := by simpa [inR] using h
def ruOk (r : Ru) : Bool := inR r.at_ 0 11 && (inR r.op 12 15 && (inR r.num 0 255 && (inR r.ver 0 2 && (inR r.key 0 4294967295 && (r.ver == 2 || r.key == 0)))))
/-- Whether n rules are ok. -/
def ruAll (f : Nat → Ru) (n : Nat) : Bool := (List.range n).all fun i => ruOk (f i)
theorem ruAll_no {f : Nat → Ru} {n i : Nat} (h : i < n) (hf : ruOk (f i) = false) : ruAll f n = false := by
  rw [ruAll, List.all_eq_false]
  exact ⟨i, List.mem_range.2 h, by simp [hf]⟩
theorem ruAll_yes {f : Nat → Ru} {n : Nat} (h : ∀ i, i < n → ruOk (f i) = true) : ruAll f n = true := by
  rw [ruAll, List.all_eq_true]
  exact fun i hi => h i (List.mem_range.1 hi)
def ruOks (f : Nat → Ru) (n : Nat) : Bool := ruAll f n && decide ((n : Int) ≤ 6)
def wordL : List ByteArray := [⟨#[]⟩, ⟨#[109, 111, 118]⟩, ⟨#[97, 100, 100]⟩, ⟨#[115, 117, 98]⟩, ⟨#[109, 117, 108]⟩, ⟨#[97, 110, 100]⟩, ⟨#[111, 114]⟩, ⟨#[120, 111, 114]⟩, ⟨#[115, 104, 108]⟩, ⟨#[115, 104, 114]⟩, ⟨#[100, 105, 118]⟩, ⟨#[109, 111, 100]⟩, ⟨#[115, 97, 109, 101]⟩, ⟨#[111, 116, 104, 101, 114]⟩, ⟨#[108, 101, 115, 115]⟩, ⟨#[109, 111, 114, 101]⟩, ⟨#[103, 111]⟩, ⟨#[108, 111, 97, 100]⟩, ⟨#[115, 116, 111, 114, 101]⟩, ⟨#[99, 97, 108, 108]⟩, ⟨#[101, 120, 105, 116]⟩]
def wordS (k : Nat) : ByteArray := wordL.getD k ⟨#[]⟩
def wordA : Array Value := #[.string ⟨#[]⟩, .string ⟨#[109, 111, 118]⟩, .string ⟨#[97, 100, 100]⟩, .string ⟨#[115, 117, 98]⟩, .string ⟨#[109, 117, 108]⟩, .string ⟨#[97, 110, 100]⟩, .string ⟨#[111, 114]⟩, .string ⟨#[120, 111, 114]⟩, .string ⟨#[115, 104, 108]⟩, .string ⟨#[115, 104, 114]⟩, .string ⟨#[100, 105, 118]⟩, .string ⟨#[109, 111, 100]⟩, .string ⟨#[115, 97, 109, 101]⟩, .string ⟨#[111, 116, 104, 101, 114]⟩, .string ⟨#[108, 101, 115, 115]⟩, .string ⟨#[109, 111, 114, 101]⟩, .string ⟨#[103, 111]⟩, .string ⟨#[108, 111, 97, 100]⟩, .string ⟨#[115, 116, 111, 114, 101]⟩, .string ⟨#[99, 97, 108, 108]⟩, .string ⟨#[101, 120, 105, 116]⟩]
theorem g_word (k : Nat) (hk : k < 21) : wordA[0 + k * 1]? = some (.string (wordS k)) := by
  rcases (by omega : k = 0 ∨ k = 1 ∨ k = 2 ∨ k = 3 ∨ k = 4 ∨ k = 5 ∨ k = 6 ∨ k = 7 ∨ k = 8 ∨ k = 9 ∨ k = 10 ∨ k = 11 ∨ k = 12 ∨ k = 13 ∨ k = 14 ∨ k = 15 ∨ k = 16 ∨ k = 17 ∨ k = 18 ∨ k = 19 ∨ k = 20) with rfl | rfl | rfl | rfl | rfl | rfl | rfl | rfl | rfl | rfl | rfl | rfl | rfl | rfl | rfl | rfl | rfl | rfl | rfl | rfl | rfl <;> rfl
theorem word_le (k : Nat) (hk : k < 21) : (wordS k).size ≤ 10 := by
  rcases (by omega : k = 0 ∨ k = 1 ∨ k = 2 ∨ k = 3 ∨ k = 4 ∨ k = 5 ∨ k = 6 ∨ k = 7 ∨ k = 8 ∨ k = 9 ∨ k = 10 ∨ k = 11 ∨ k = 12 ∨ k = 13 ∨ k = 14 ∨ k = 15 ∨ k = 16 ∨ k = 17 ∨ k = 18 ∨ k = 19 ∨ k = 20) with rfl | rfl | rfl | rfl | rfl | rfl | rfl | rfl | rfl | rfl | rfl | rfl | rfl | rfl | rfl | rfl | rfl | rfl | rfl | rfl | rfl <;> decide
def verbL : List ByteArray := [⟨#[100, 114, 111, 112]⟩, ⟨#[107, 101, 101, 112]⟩, ⟨#[115, 101, 110, 100]⟩]
def verbS (k : Nat) : ByteArray := verbL.getD k ⟨#[]⟩
def verbA : Array Value := #[.string ⟨#[100, 114, 111, 112]⟩, .string ⟨#[107, 101, 101, 112]⟩, .string ⟨#[115, 101, 110, 100]⟩]
theorem g_verb (k : Nat) (hk : k < 3) : verbA[0 + k * 1]? = some (.string (verbS k)) := by
  rcases (by omega : k = 0 ∨ k = 1 ∨ k = 2) with rfl | rfl | rfl <;> rfl
theorem verb_le (k : Nat) (hk : k < 3) : (verbS k).size ≤ 10 := by
  rcases (by omega : k = 0 ∨ k = 1 ∨ k = 2) with rfl | rfl | rfl <;> decide
/-- The line of a rule. -/
def lineS (xa xo xn xv xk : Nat) : ByteArray :=
  if ((xv : Nat) : Int) == 2 then ⟨#[98, 121, 116, 101, 32]⟩ ++ decS xa ++ ⟨#[32]⟩ ++ wordS xo ++ ⟨#[32]⟩ ++ decS xn ++ ⟨#[32]⟩ ++ verbS xv ++ ⟨#[32]⟩ ++ decS xk ++ ⟨#[10]⟩
  else ⟨#[98, 121, 116, 101, 32]⟩ ++ decS xa ++ ⟨#[32]⟩ ++ wordS xo ++ ⟨#[32]⟩ ++ decS xn ++ ⟨#[32]⟩ ++ verbS xv ++ ⟨#[10]⟩
theorem lineS_le {xa xo xn xv xk : Nat} (ha : xa ≤ 11) (ho : xo ≤ 15) (hn : xn ≤ 255) (hv : xv ≤ 2) (hk : xk ≤ 4294967295) : (lineS xa xo xn xv xk).size ≤ 100 := by
  have s1 := decS_size 18 xa (by omega)
  have s2 := decS_size 18 xn (by omega)
  have s3 := decS_size 18 xk (by omega)
  have s4 := word_le xo (by omega)
  have s5 := verb_le xv (by omega)
  have l5 : (⟨#[98, 121, 116, 101, 32]⟩ : ByteArray).size = 5 := rfl
  have l1 : (⟨#[32]⟩ : ByteArray).size = 1 := rfl
  have l2 : (⟨#[10]⟩ : ByteArray).size = 1 := rfl
  unfold lineS
  split <;> (simp only [ByteArray.size_append]; omega)
def lineRu (r : Ru) : ByteArray := lineS r.at_.toNat r.op.toNat r.num.toNat r.ver.toNat r.key.toNat
structure RuIs (r : Ru) : Prop where
  at0 : 0 ≤ r.at_
  at1 : r.at_ ≤ 11
  op0 : 12 ≤ r.op
  op1 : r.op ≤ 15
  num0 : 0 ≤ r.num
  num1 : r.num ≤ 255
  ver0 : 0 ≤ r.ver
  ver1 : r.ver ≤ 2
  key0 : 0 ≤ r.key
  key1 : r.key ≤ 4294967295
  none : r.ver = 2 ∨ r.key = 0
theorem ruOk_is {r : Ru} (h : ruOk r = true) : RuIs r := by
  simp [ruOk, inR] at h
  constructor <;> omega
theorem is_ruOk {r : Ru} (h : RuIs r) : ruOk r = true := by
  have := h.at0; have := h.at1; have := h.op0; have := h.op1; have := h.num0; have := h.num1; have := h.ver0; have := h.ver1; have := h.key0; have := h.key1; have := h.none
  simp [ruOk, inR]
  omega
theorem lineRu_le {r : Ru} (h : ruOk r = true) : (lineRu r).size ≤ 100 := by
  have h := ruOk_is h
  have := h.at0; have := h.at1; have := h.op0; have := h.op1; have := h.num0; have := h.num1; have := h.ver0; have := h.ver1; have := h.key0; have := h.key1
  exact lineS_le (by omega) (by omega) (by omega) (by omega) (by omega)
/-- The lines of rules. -/
def catR (f : Nat → Ru) : Nat → ByteArray
  | 0 => ⟨#[]⟩
  | i + 1 => catR f i ++ lineRu (f i)
theorem catR_le {f : Nat → Ru} : ∀ {i : Nat}, (∀ j, j < i → ruOk (f j) = true) → (catR f i).size ≤ 100 * i
  | 0, _ => Nat.le_refl _
  | i + 1, h => by
    have h1 := catR_le (i := i) fun j hj => h j (by omega)
    have h2 := lineRu_le (h i (by omega))
    rw [catR, ByteArray.size_append]
    omega
theorem ruOks_all {f : Nat → Ru} {n : Nat} (h : ruOks f n = true) : (∀ i, i < n → ruOk (f i) = true) ∧ n ≤ 6 := by
  rw [ruOks, Bool.and_eq_true, ruAll, List.all_eq_true] at h
  exact ⟨fun i hi => h.1 i (List.mem_range.2 hi), by have := h.2; simp at this; omega⟩
/-- Rules as they are written; the empty text, if they are not ok. -/
def putR (f : Nat → Ru) (n : Nat) : ByteArray := if ruOks f n then catR f n else ⟨#[]⟩
end Go.Proofs.YtkaekiodjjhjkaaDoor
