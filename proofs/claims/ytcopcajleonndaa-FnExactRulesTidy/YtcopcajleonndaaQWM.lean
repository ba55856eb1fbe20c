/- Rules: when they are ok, how they are written. -/
import Derived.Test.YtcopcajleonndaaQG0
import Derived.Laws.BytesArg
namespace Go.Proofs.Ytcopcajleonndaa
open Go.RowKit
set_option linter.unusedVariables false
set_option linter.unusedSimpArgs false
/-- A rule. -/
structure Ru where
  at_ : Int
  op : Int
  num : Int
  ver : Int
  key : Int
def Ru.arr (r : Ru) : Array Value := #[.int .i64 r.at_, .int .i64 r.op, .int .i64 r.num, .int .i64 r.ver, .int .i64 r.key]
theorem Ru.one (r : Ru) : r.arr.all (·.oneCell') = true := by kernel_rfl
def inR (n lo hi : Int) : Bool := decide (n ≥ lo) && decide (n ≤ hi)
def ruOk (r : Ru) : Bool := inR r.at_ 0 11 && (inR r.op 12 15 && (inR r.num 0 255 && (inR r.ver 0 2 && (inR r.key 0 4294967295 && (r.ver == 2 || r.key == 0)))))
/-- Whether n rules are ok. -/
def ruAll (f : Nat → Ru) (n : Nat) : Bool := (List.range n).all fun i => ruOk (f i)
theorem ruAll_no {f : Nat → Ru} {n i : Nat} (h : i < n) (hf : ruOk (f i) = false) : ruAll f n = false := by
  rw [ruAll, List.all_eq_false]
  exact ⟨i, List.mem_range.2 h, by simp [hf]⟩
theorem ruAll_yes {f : Nat → Ru} {n : Nat} (h : ∀ i, i < n → ruOk (f i) = true) : ruAll f n = true := by
  rw [ruAll, List.all_eq_true]
  exact fun i hi => h i (List.mem_range.1 hi)
def ruOks (f : Nat → Ru) (n : Nat) : Bool := ruAll f n && decide ((n : Int) ≤ 6)
structure RuIs (r : Ru) : Prop where
  at0 : 0 ≤ r.at_
  at1 : r.at_ ≤ 11
  op0 : 12 ≤ r.op
  op1 : r.op ≤ 15
  num0 : 0 ≤ r.num
  num1 : r.num ≤ 255
  ver0 : 0 ≤ r.ver
  ver1 : r.ver ≤ 2
  key0 : 0 ≤ r.key
  key1 : r.key ≤ 4294967295
  none : r.ver = 2 ∨ r.key = 0
theorem ruOk_is {r : Ru} (h : ruOk r = true) : RuIs r := by
  simp [ruOk, inR] at h
  constructor <;> omega
theorem ruOks_all {f : Nat → Ru} {n : Nat} (h : ruOks f n = true) : (∀ i, i < n → ruOk (f i) = true) ∧ n ≤ 6 := by
  rw [ruOks, Bool.and_eq_true, ruAll, List.all_eq_true] at h
  exact ⟨fun i hi => h.1 i (List.mem_range.2 hi), by have := h.2; simp at this; omega⟩
end Go.Proofs.Ytcopcajleonndaa
