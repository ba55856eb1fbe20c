/- Steps: strings. -/
import Derived.Test.YtkaekiodjjhjkaaDoorSW
import Derived.Laws.Concat
namespace Go.Proofs.YtkaekiodjjhjkaaDoor
open Go.RowKit
set_option linter.unusedVariables false
set_option linter.unusedSimpArgs false
section
variable {P : Program} {op : Oper} {a : Act} {w : World}
theorem rn_sadd (T U : TypeId) (x y : Operand) (ho : op.op = .binOp .add T x y U) (p q : ByteArray) (hx : a.eval x = .string p) (hy : a.eval y = .string q) (h : p.size + q.size ≤ 9223372036854775807) : (execOp a.eval op).run P w = .ok (.value (.string (p ++ q))) w := by
  unfold execOp
  have e1 : (eqGuard .add T x y (.string p) (.string q)).run P w = .ok () w := rfl
  have e2 : (binOp .add T (.string p) (.string q)).run P w = .ok (.string (p ++ q)) w := run_string_add_sum (P := P) w p q h
  simp only [ho, hx, hy, Sem.run_bind, e1, e2, Result.andThen_ok]; rfl
theorem rn_seq (b : BinOp) (hb : b = .eql ∨ b = .neq) (T U : TypeId) (x y : Operand) (ho : op.op = .binOp b T x y U) (p q : ByteArray) (hx : a.eval x = .string p) (hy : a.eval y = .string q) (v : Value)
    (hv : Value.bool (if b = .eql then p.toList == q.toList else !(p.toList == q.toList)) = v) : (execOp a.eval op).run P w = .ok (.value v) w := by
  subst hv
  unfold execOp
  rcases hb with rfl | rfl <;> (simp only [ho, hx, hy, Sem.run_bind]; rfl)
theorem rn_sidx (T : TypeId) (hT : P.underlying T = some .string) (x y : Operand) (ho : op.op = .index T x y) (s : ByteArray) (i : Nat) (hx : a.eval x = .string s) (hy : a.eval y = .int .i64 ((i : Nat) : Int)) (hi : i < s.size) :
    (execOp a.eval op).run P w = .ok (.value (.int .u8 (s[i].toNat : Nat))) w := by
  unfold execOp
  have : (Instr.index T (.string s) (.int .i64 ((i : Nat) : Int))).run P w = .ok (.int .u8 (s[i].toNat : Nat)) w := by
    simp [Instr.index, asIntOf, underlying, hT, Sem.run_bind, Result.andThen, getElem?_pos, hi]
  simp only [ho, hx, hy, Sem.run_bind, this]; rfl
theorem rn_sslice (T : TypeId) (hT : P.underlying T = some .string) (x : Operand) (lo hi : Option Operand) (ho : op.op = .slice T x lo hi none) (s : ByteArray) (l h : Nat) (hx : a.eval x = .string s)
    (hlo : lo.map a.eval = some (.int .i64 ((l : Nat) : Int)) ∨ (lo = none ∧ l = 0)) (hhi : hi.map a.eval = some (.int .i64 ((h : Nat) : Int)) ∨ (hi = none ∧ h = s.size)) (h1 : l ≤ h) (h2 : h ≤ s.size) :
    (execOp a.eval op).run P w = .ok (.value (.string (s.extract l h))) w := by
  unfold execOp
  have : (Instr.sliceAt T (.string s) (lo.map a.eval) (hi.map a.eval) none).run P w = .ok (.string (s.extract l h)) w := by
    have k1 : (l : Int) ≤ (h : Int) := by omega
    have k2 : (h : Int) ≤ (s.size : Int) := by omega
    rcases hlo with e | ⟨rfl, rfl⟩ <;> rcases hhi with e' | ⟨rfl, rfl⟩
    · rw [e, e']
      simp [Instr.sliceAt, Instr.slice, Instr.sliceBounds, Instr.sliceBound, asIntOf, underlying, hT, Sem.run_bind, Result.andThen, k1, k2, h1, h2]
    · rw [e]
      simp [Instr.sliceAt, Instr.slice, Instr.sliceBounds, Instr.sliceBound, asIntOf, underlying, hT, Sem.run_bind, Result.andThen, k1, k2, h1, h2]
    · rw [e']
      simp [Instr.sliceAt, Instr.slice, Instr.sliceBounds, Instr.sliceBound, asIntOf, underlying, hT, Sem.run_bind, Result.andThen, k1, k2, h1, h2]
    · simp [Instr.sliceAt, Instr.slice, Instr.sliceBounds, Instr.sliceBound, asIntOf, underlying, hT, Sem.run_bind, Result.andThen, k1, k2, h1, h2]
  simp only [ho, hx, Option.map_none, Sem.run_bind, this]; rfl
/-- The byte at a place; 0, if there is none. -/
def byteAt (s : ByteArray) (i : Nat) : Nat := if h : i < s.size then s[i].toNat else 0
theorem byteAt_lt (s : ByteArray) (i : Nat) : byteAt s i < 256 := by
  unfold byteAt
  split
  · exact UInt8.toNat_lt _
  · omega
theorem rn_sbyte (T : TypeId) (hT : P.underlying T = some .string) (x y : Operand) (ho : op.op = .index T x y) (s : ByteArray) (i : Nat) (hx : a.eval x = .string s) (hy : a.eval y = .int .i64 ((i : Nat) : Int)) (hi : i < s.size) :
    (execOp a.eval op).run P w = .ok (.value (.int .u8 ((byteAt s i : Nat) : Int))) w := by
  have := rn_sidx (w := w) T hT x y ho s i hx hy hi
  rw [show byteAt s i = s[i].toNat by simp [byteAt, hi]]
  exact this
end
theorem mulN {i c : Nat} (h : i * c ≤ 9223372036854775807) : Value.int .i64 (IntKind.i64.wrap ((i : Int) * (c : Int))) = .int .i64 ((i * c : Nat) : Int) := by
  rw [show IntKind.i64.wrap ((i : Int) * (c : Int)) = ((i * c : Nat) : Int) by rw [IntKind.wrap_i64, ← Int.natCast_mul]; omega]
theorem subN {i c : Nat} (k : IntKind) (h : c ≤ i) (hk : k.wrap ((i - c : Nat) : Int) = ((i - c : Nat) : Int)) : Value.int k (k.wrap ((i : Int) - (c : Int))) = .int k ((i - c : Nat) : Int) := by
  rw [show (i : Int) - (c : Int) = ((i - c : Nat) : Int) by omega, hk]
theorem wrap_u8 {n : Nat} (h : n < 256) : IntKind.u8.wrap (n : Int) = (n : Int) := by
  simp [IntKind.wrap, IntKind.bits, IntKind.signed]; omega
theorem cvn {n : Nat} (h : n ≤ 9223372036854775807) : Value.int .i64 (IntKind.i64.wrap (n : Int)) = .int .i64 (n : Int) := by
  rw [show IntKind.i64.wrap (n : Int) = (n : Int) by rw [IntKind.wrap_i64]; omega]
end Go.Proofs.YtkaekiodjjhjkaaDoor
