/- Steps of a walk in which the state of the call and its memory are names of which lists say what they hold. -/
import Derived.Test.YtkaekiodjjhjkaaRows
import Derived.WalkKit
import Derived.Deep.MidRow
import Derived.Defers
import Derived.RangeFuncRecord
import Derived.Deep.RegionHeld
import Derived.Laws.AppendOwn
import Derived.LoopN
import Derived.Laws.Concat
import Derived.Laws.OwnMore
namespace Go.Proofs.Ytkaekiodjjhjkaa
open Go.RowKit
set_option linter.unusedVariables false
set_option linter.unusedSimpArgs false

/-- A block and what it holds; 'own': it may be written. -/
structure Ent where
  own : Bool
  b : Nat
  T : TypeId
  A : Array Value
/-- Block b holds the cells A of type T. -/
def BX (w : World) (b : Nat) (T : TypeId) (A : Array Value) : Prop := w.heap[b]? = some (.cells A T (0, 0))
/-- All that was there is as it was, but for the blocks of S. -/
structure KB (S : List Nat) (w w' : World) : Prop where
  os : w'.os = w.os
  tape : w'.tape = w.tape
  output : w'.output = w.output
  size : w.heap.size ≤ w'.heap.size
  block : ∀ k, k < w.heap.size → k ∉ S → w'.heap[k]? = w.heap[k]?
theorem KB.refl (S : List Nat) (w : World) : KB S w w := ⟨rfl, rfl, rfl, Nat.le_refl _, fun _ _ _ => rfl⟩
theorem KB.below {w w' : World} (h : KB [] w w') : Below w.heap.size w w' := ⟨h.os, h.tape, h.output, h.size, fun k hk => h.block k hk (by simp)⟩
theorem KB.of_below {w w' : World} (h : Below w.heap.size w w') : KB [] w w' := ⟨h.os, h.tape, h.output, h.size, fun k hk _ => h.block k hk⟩
theorem BX.lt {w : World} {b : Nat} {T : TypeId} {A : Array Value} (h : BX w b T A) : b < w.heap.size := (Array.getElem?_eq_some_iff.1 h).1
theorem BX.cell {w : World} {b : Nat} {T : TypeId} {A : Array Value} (h : BX w b T A) (j : Nat) : w.cell? ⟨b, j, none⟩ = A[j]? := by
  simp [World.cell?, show w.heap[b]? = _ from h]
theorem BX.frozen {w : World} {b : Nat} {T : TypeId} {A : Array Value} (h : BX w b T A) (j : Nat) : w.frozen? ⟨b, j, none⟩ = false := by
  simp [World.frozen?, show w.heap[b]? = _ from h]
theorem BX.kb {S : List Nat} {w w' : World} {b : Nat} {T : TypeId} {A : Array Value} (h : BX w b T A) (k : KB S w w') (hb : b ∉ S) : BX w' b T A :=
  (k.block b h.lt hb).trans h

/-- The memory of a call that began in w0: what has not been written, and blocks by their keys. -/
structure MM (S : List Nat) (w0 w : World) (L : List (Nat × Ent)) : Prop where
  keep : KB S w0 w
  has : ∀ k e, L.lookup k = some e → BX w e.b e.T e.A
  own : ∀ k e, L.lookup k = some e → e.own = true → w0.heap.size ≤ e.b ∨ e.b ∈ S
  apart : ∀ j k e f, L.lookup j = some e → L.lookup k = some f → j ≠ k → e.own = true → e.b ≠ f.b
theorem MM.nil (w : World) : MM [] w w [] := ⟨KB.refl _ _, fun _ _ h => by simp at h, fun _ _ h => by simp at h, fun _ _ _ _ h => by simp at h⟩
theorem MM.start1 {w : World} {b : Nat} {T : TypeId} {A : Array Value} (key : Nat) (h : BX w b T A) : MM [b] w w [(key, ⟨true, b, T, A⟩)] := by
  have one : ∀ k e, List.lookup k [(key, (⟨true, b, T, A⟩ : Ent))] = some e → k = key ∧ e = ⟨true, b, T, A⟩ := by
    intro k e hk
    rw [List.lookup_cons] at hk
    by_cases hh : k = key
    · subst hh; simp at hk; exact ⟨rfl, hk.symm⟩
    · rw [show (k == key) = false by simpa using hh] at hk; simp at hk
  refine ⟨KB.refl _ _, ?_, ?_, ?_⟩
  · intro k e hk; obtain ⟨_, rfl⟩ := one k e hk; exact h
  · intro k e hk _; obtain ⟨_, rfl⟩ := one k e hk; exact .inr (by simp)
  · intro j k e f hj hk hne; exact absurd ((one j e hj).1.trans (one k f hk).1.symm) hne
theorem MM.below {w0 w : World} {L : List (Nat × Ent)} (h : MM [] w0 w L) : Below w0.heap.size w0 w := h.keep.below

/-- The values of the call's slots. -/
structure EV (a : Act) (n : Nat) (d : List Deferred) (env : List (Nat × Value)) : Prop where
  size : a.tmps.size = n
  defers : a.defers = d
  has : ∀ t v, env.lookup t = some v → a.tmps[t]? = some v
theorem EV.tmp {a : Act} {n : Nat} {d : List Deferred} {env : List (Nat × Value)} (h : EV a n d env) (t : Nat) (v : Value) (hl : env.lookup t = some v) : a.eval (.tmp t) = v := by
  have := h.has t v hl
  simp [Act.eval, Array.getD_eq_getD_getElem?, this]
theorem EV.at {a : Act} {n : Nat} {d : List Deferred} {env : List (Nat × Value)} (h : EV a n d env) (t : Nat) (v : Value) (hl : env.lookup t = some v) : a.tmps.getD t undef = v := by
  have := h.has t v hl
  simp [Array.getD_eq_getD_getElem?, this]
theorem EV.put {a : Act} {n : Nat} {d : List Deferred} {env : List (Nat × Value)} (h : EV a n d env) (t : Nat) (v : Value) (ht : t < n) : EV (a.put (some t) v) n d ((t, v) :: env) := by
  refine ⟨by simp [Act.put, h.size], h.defers, fun s u hs => ?_⟩
  simp only [Act.put]
  rw [Array.getElem?_setIfInBounds]
  by_cases e : s = t
  · subst e
    simp at hs
    simp [h.size, ht, hs]
  · rw [if_neg (fun h => e h.symm)]
    refine h.has s u ?_
    rw [List.lookup_cons, show (s == t) = false by simpa using e] at hs
    exact hs
/-- dst is a slot, or there is none. -/
def putE (env : List (Nat × Value)) (dst : Option Tmp) (v : Value) : List (Nat × Value) := match dst with
  | some t => (t, v) :: env
  | none => env
theorem EV.putO {a : Act} {n : Nat} {d : List Deferred} {env : List (Nat × Value)} (h : EV a n d env) (dst : Option Tmp) (v : Value) (ht : dst.all (· < n) = true) : EV (a.put dst v) n d (putE env dst v) := by
  cases dst with
  | none => exact h
  | some t => exact h.put t v (by simpa using ht)
theorem EV.begin (l : Array Value) (d : List Deferred) (n : Nat) (hn : l.size = n) (env : List (Nat × Value)) (h : ∀ p ∈ env, l[p.1]? = some p.2) : EV { tmps := l, defers := d } n d env := by
  refine ⟨hn, rfl, fun t v hl => ?_⟩
  induction env with
  | nil => simp at hl
  | cons p r ih =>
    obtain ⟨s, u⟩ := p
    rw [List.lookup_cons] at hl
    by_cases e : t = s
    · subst e
      simp at hl
      subst hl
      exact h (t, u) (by simp)
    · rw [show (t == s) = false by simpa using e] at hl
      exact ih (fun p hp => h p (by simp [hp])) hl

theorem lk (k k' : Nat) (e : Ent) (L : List (Nat × Ent)) : ((k', e) :: L).lookup k = if k = k' then some e else L.lookup k := by
  rw [List.lookup_cons]
  by_cases h : k = k'
  · simp [h]
  · rw [show (k == k') = false by simpa using h, if_neg h]
section mem
variable {S : List Nat} {w0 w : World} {L : List (Nat × Ent)}
theorem MM.alloc (h : MM S w0 w L) (key : Nat) (T : TypeId) (A : Array Value) (hk : L.lookup key = none) : MM S w0 (w.alloc (.cells A T)) ((key, ⟨true, w.heap.size, T, A⟩) :: L) := by
  have hs := h.keep.size
  have old : ∀ k, k < w.heap.size → (w.alloc (.cells A T)).heap[k]? = w.heap[k]? := fun k hk => Below.heap_alloc _ _ _ hk
  refine ⟨⟨h.keep.os, h.keep.tape, h.keep.output, by simp; omega, fun k hk hS => (old k (by omega)).trans (h.keep.block k hk hS)⟩, ?_, ?_, ?_⟩
  · intro k e hl
    rw [lk] at hl
    split at hl
    · cases hl; exact World.alloc_heap_new w _
    · have := h.has k e hl; exact (old e.b this.lt).trans this
  · intro k e hl ho
    rw [lk] at hl
    split at hl
    · cases hl; exact .inl hs
    · exact h.own k e hl ho
  · intro j k e f hj hk' hne ho
    rw [lk] at hj hk'
    split at hj <;> split at hk'
    · rename_i h1 h2; exact absurd (h1.trans h2.symm) hne
    · cases hj; have := (h.has k f hk').lt; simp; omega
    · cases hk'; have := (h.has j e hj).lt; simp; omega
    · exact h.apart j k e f hj hk' hne ho
theorem BX.set {b : Nat} {T : TypeId} {A : Array Value} (h : BX w b T A) (o : Nat) (v : Value) : BX (w.setCell ⟨b, o, none⟩ v) b T (A.setIfInBounds o v) := by
  unfold BX at *
  simp only [World.setCell, Array.getElem?_modify, if_pos rfl, h]
  rfl
/-- A written over from o on. -/
def ovw (A : Array Value) (o : Nat) : List Value → Array Value
  | [] => A
  | v :: r => ovw (A.setIfInBounds o v) (o + 1) r
theorem BX.sets {b : Nat} {T : TypeId} : ∀ (cs : List Value) {w : World} {A : Array Value} (h : BX w b T A) (o : Nat), BX (w.setCells b o cs) b T (ovw A o cs)
  | [], _, _, h, _ => h
  | v :: r, _, _, h, o => BX.sets r (h.set o v) (o + 1)
theorem setCells_other {b : Nat} : ∀ (cs : List Value) (w : World) (o k : Nat), k ≠ b → (w.setCells b o cs).heap[k]? = w.heap[k]?
  | [], _, _, _, _ => rfl
  | v :: r, w, o, k, hne => (setCells_other r _ (o + 1) k hne).trans (Below.heap_setCell _ _ _ _ hne)
theorem setCells_size {b : Nat} : ∀ (cs : List Value) (w : World) (o : Nat), (w.setCells b o cs).heap.size = w.heap.size
  | [], _, _ => rfl
  | v :: r, w, o => (setCells_size r _ (o + 1)).trans (by simp [World.setCell])
theorem setCells_rest {b : Nat} : ∀ (cs : List Value) (w : World) (o : Nat), (w.setCells b o cs).os = w.os ∧ (w.setCells b o cs).tape = w.tape ∧ (w.setCells b o cs).output = w.output
  | [], _, _ => ⟨rfl, rfl, rfl⟩
  | v :: r, w, o => setCells_rest r _ (o + 1)
theorem MM.sets (h : MM S w0 w L) (key : Nat) (b : Nat) (T : TypeId) (A : Array Value) (hl : L.lookup key = some ⟨true, b, T, A⟩) (o : Nat) (cs : List Value) :
    MM S w0 (w.setCells b o cs) ((key, ⟨true, b, T, ovw A o cs⟩) :: L) := by
  have hb := h.has key _ hl
  have hown := h.own key _ hl rfl
  obtain ⟨r1, r2, r3⟩ := setCells_rest (b := b) cs w o
  have hz := setCells_size (b := b) cs w o
  refine ⟨⟨r1.trans h.keep.os, r2.trans h.keep.tape, r3.trans h.keep.output, by rw [hz]; exact h.keep.size, fun k hk hS => ?_⟩, ?_, ?_, ?_⟩
  · rw [setCells_other cs w o k ?_]
    · exact h.keep.block k hk hS
    · rintro rfl
      simp at hown
      rcases hown with h' | h'
      · omega
      · exact hS h'
  · intro k e hk
    rw [lk] at hk
    split at hk
    · cases hk; exact BX.sets cs hb o
    · rename_i hne
      have := h.has k e hk
      exact (setCells_other cs w o e.b (fun he => h.apart key k _ e hl hk (Ne.symm hne) rfl he.symm)).trans this
  · intro k e hk ho
    rw [lk] at hk
    split at hk
    · cases hk; exact hown
    · exact h.own k e hk ho
  · intro j k e f hj hk hne ho
    rw [lk] at hj hk
    split at hj <;> split at hk
    · rename_i h1 h2; exact absurd (h1.trans h2.symm) hne
    · rename_i h1 h2; cases hj; exact h.apart key k ⟨true, b, T, A⟩ f hl hk (fun e => h2 e.symm) rfl
    · rename_i h1 h2; cases hk; exact h.apart j key e ⟨true, b, T, A⟩ hj hl h1 ho
    · exact h.apart j k e f hj hk hne ho
/-- A call that keeps all but blocks of R, of which it is said what they hold now. -/
theorem MM.kb {w' : World} (h : MM S w0 w L) (k : KB [] w w') : MM S w0 w' L :=
  ⟨⟨k.os.trans h.keep.os, k.tape.trans h.keep.tape, k.output.trans h.keep.output, Nat.le_trans h.keep.size k.size, fun i hi hS => (k.block i (Nat.lt_of_lt_of_le hi h.keep.size) (by simp)).trans (h.keep.block i hi hS)⟩,
    fun j e hj => (h.has j e hj).kb k (by simp), h.own, h.apart⟩
theorem MM.kb1 {w' : World} (h : MM S w0 w L) (key : Nat) (b : Nat) (T : TypeId) (A A' : Array Value) (hl : L.lookup key = some ⟨true, b, T, A⟩) (k : KB [b] w w') (hx : BX w' b T A') :
    MM S w0 w' ((key, ⟨true, b, T, A'⟩) :: L) := by
  have hown := h.own key _ hl rfl
  refine ⟨⟨k.os.trans h.keep.os, k.tape.trans h.keep.tape, k.output.trans h.keep.output, Nat.le_trans h.keep.size k.size, fun i hi hS => ?_⟩, ?_, ?_, ?_⟩
  · refine (k.block i (Nat.lt_of_lt_of_le hi h.keep.size) ?_).trans (h.keep.block i hi hS)
    simp
    rintro rfl
    simp at hown
    rcases hown with h' | h'
    · omega
    · exact hS h'
  · intro j e hk
    rw [lk] at hk
    split at hk
    · cases hk; exact hx
    · rename_i hne
      exact (h.has j e hk).kb k (by simp; exact fun he => h.apart key j _ e hl hk (Ne.symm hne) rfl he.symm)
  · intro j e hk ho
    rw [lk] at hk
    split at hk
    · cases hk; exact hown
    · exact h.own j e hk ho
  · intro j i e f hj hk hne ho
    rw [lk] at hj hk
    split at hj <;> split at hk
    · rename_i h1 h2; exact absurd (h1.trans h2.symm) hne
    · rename_i h1 h2; cases hj; exact h.apart key i ⟨true, b, T, A⟩ f hl hk (fun e => h2 e.symm) rfl
    · rename_i h1 h2; cases hk; exact h.apart j key e ⟨true, b, T, A⟩ hj hl h1 ho
    · exact h.apart j i e f hj hk hne ho
/-- A block that was there ahead of the call, to be read. -/
theorem MM.old (h : MM S w0 w L) (key : Nat) (b : Nat) (T : TypeId) (A : Array Value) (hk : L.lookup key = none) (hx : BX w0 b T A) (hb : b ∉ S) : MM S w0 w ((key, ⟨false, b, T, A⟩) :: L) := by
  have hx' : BX w b T A := hx.kb h.keep hb
  refine ⟨h.keep, ?_, ?_, ?_⟩
  · intro j e hj
    rw [lk] at hj
    split at hj
    · cases hj; exact hx'
    · exact h.has j e hj
  · intro j e hj ho
    rw [lk] at hj
    split at hj
    · cases hj; simp at ho
    · exact h.own j e hj ho
  · intro j k e f hj hk' hne ho
    rw [lk] at hj hk'
    split at hj <;> split at hk'
    · rename_i h1 h2; exact absurd (h1.trans h2.symm) hne
    · cases hj; simp at ho
    · cases hk'
      have h1 := hx.lt
      have := h.own j e hj ho
      rintro rfl
      rcases this with h' | h'
      · omega
      · exact hb h'
    · exact h.apart j k e f hj hk' hne ho
theorem MM.bx (h : MM S w0 w L) (key : Nat) (o : Bool) (b : Nat) (T : TypeId) (A : Array Value) (hl : L.lookup key = some ⟨o, b, T, A⟩) : BX w b T A := h.has key _ hl
end mem

/-- A type of several cells, and how many; of one. -/
structure AggT (P : Program) (T : TypeId) (n : Nat) : Prop where
  agg : ∀ w, (isAgg T).run P w = .ok true w
  size : ∀ w, (sizeOf T).run P w = .ok n w
structure OneT (P : Program) (T : TypeId) : Prop where
  agg : ∀ w, (isAgg T).run P w = .ok false w
  size : ∀ w, (sizeOf T).run P w = .ok 1 w

section steps
variable {P : Program} {ops : Array Oper} {Q : Exit → Act → World → Prop} {rest : List Oper} {op : Oper} {a : Act} {w w0 : World} {S : List Nat} {L : List (Nat × Ent)}
  {n : Nat} {d : List Deferred} {env : List (Nat × Value)}

theorem wl_val (he : EV a n d env) (hd : op.dst.all (· < n) = true) (hw : Region.wanted op (yielded ops a.tmps) = true) (v : Value) (hr : (execOp a.eval op).run P w = .ok (.value v) w)
    (k : ∀ a', EV a' n d (putE env op.dst v) → wpList P ops Q rest a' w) : wpList P ops Q (op :: rest) a w := by
  unfold wpList
  rw [if_pos hw]
  refine .inl ?_
  unfold Oper.wp
  rw [hr]
  exact k _ (he.putO _ _ hd)
theorem wl_not (he : EV a n d env) (hd : op.dst.all (· < n) = true) (hw : Region.wanted op (yielded ops a.tmps) = false)
    (k : ∀ a', EV a' n d (putE env op.dst undef) → wpList P ops Q rest a' w) : wpList P ops Q (op :: rest) a w := by
  unfold wpList
  rw [hw]
  exact k _ (he.putO _ _ hd)
/-- A guard that is told by a slot. -/
theorem wanted_slot (he : EV a n d env) (j : Nat) (q : Bool) (hg : op.guard = some (j, q)) (t : Nat) (hj : (ops[j]?).bind (·.dst) = some t) (x : Bool) (hl : env.lookup t = some (.bool x)) (y : Bool) (hy : (x == q) = y) :
    Region.wanted op (yielded ops a.tmps) = y := by
  have := he.has t _ hl
  simp only [Region.wanted, hg, yielded, hj, Option.bind_some, this]
  rw [← hy]
  cases x <;> cases q <;> rfl

theorem wanted_undef (he : EV a n d env) (j : Nat) (q : Bool) (hg : op.guard = some (j, q)) (t : Nat) (hj : (ops[j]?).bind (·.dst) = some t) (hl : env.lookup t = some undef) :
    Region.wanted op (yielded ops a.tmps) = false := by
  have := he.has t _ hl
  simp only [Region.wanted, hg, yielded, hj, Option.bind_some, this]
  rfl
theorem rn_move (x : Operand) (ho : op.op = .move x ∨ op.op = .assign x) (v : Value) (hx : a.eval x = v) : (execOp a.eval op).run P w = .ok (.value (v)) w := by
  rcases ho with ho | ho <;> (unfold execOp; simp only [ho, hx]; rfl)
theorem rn_pick (c x y : Operand) (ho : op.op = .pick c x y) (q : Bool) (hc : a.eval c = .bool q) (v : Value) (hx : (if q then a.eval x else a.eval y) = v) : (execOp a.eval op).run P w = .ok (.value (v)) w := by
  unfold execOp; simp only [ho, hc, ← hx]; cases q <;> rfl
theorem rn_pickT (c x y : Operand) (ho : op.op = .pick c x y) (hc : a.eval c = .bool true) (v : Value) (hx : a.eval x = v) : (execOp a.eval op).run P w = .ok (.value (v)) w := rn_pick c x y ho true hc v hx
theorem rn_pickF (c x y : Operand) (ho : op.op = .pick c x y) (hc : a.eval c = .bool false) (v : Value) (hx : a.eval y = v) : (execOp a.eval op).run P w = .ok (.value (v)) w := rn_pick c x y ho false hc v hx
theorem rn_field (T : TypeId) (x : Operand) (f : Nat) (ho : op.op = .fieldAddr T x f) (v u : Value) (hx : a.eval x = v)
    (hr : (Instr.fieldAt T v f).run P w = .ok u w) : (execOp a.eval op).run P w = .ok (.value (u)) w := by
  unfold execOp; simp only [ho, hx, Sem.run_bind, hr]; rfl
theorem rn_indexA (T : TypeId) (x y : Operand) (ho : op.op = .indexAddr T x y) (v i u : Value) (hx : a.eval x = v) (hy : a.eval y = i)
    (hr : (Instr.indexAt T v i).run P w = .ok u w) : (execOp a.eval op).run P w = .ok (.value (u)) w := by
  unfold execOp; simp only [ho, hx, hy, Sem.run_bind, hr]; rfl
theorem rn_bin (b : BinOp) (T U : TypeId) (x y : Operand) (ho : op.op = .binOp b T x y U) (k1 : IntKind) (p q : Int) (hx : a.eval x = .int k1 p) (hy : a.eval y = .int k1 q) (u v : Value)
    (hr : (binOp b T (.int k1 p) (.int k1 q)).run P w = .ok u w) (hv : u = v) : (execOp a.eval op).run P w = .ok (.value (v)) w := by
  subst hv
  unfold execOp
  have : (eqGuard b T x y (.int k1 p) (.int k1 q)).run P w = .ok () w := by unfold eqGuard; split <;> rfl
  simp only [ho, hx, hy, Sem.run_bind, this, hr, Result.andThen_ok]; rfl
theorem rn_un (b : UnOp) (T : TypeId) (x : Operand) (ho : op.op = .unOp b T x) (p u v : Value) (hx : a.eval x = p)
    (hr : (Op.unary b p).run P w = .ok u w) (hv : u = v) : (execOp a.eval op).run P w = .ok (.value (v)) w := by
  subst hv
  unfold execOp; simp only [ho, hx, Sem.run_bind, hr]; rfl
theorem rn_conv (s t : TypeId) (x : Operand) (ho : op.op = .convert s t x) (p u v : Value) (hx : a.eval x = p)
    (hr : (convert s t p).run P w = .ok u w) (hv : u = v) : (execOp a.eval op).run P w = .ok (.value (v)) w := by
  subst hv
  unfold execOp; simp only [ho, hx, Sem.run_bind, hr]; rfl
theorem rn_extract (x : Operand) (i : Nat) (ho : op.op = .extract x i) (vs : Array Value) (hx : a.eval x = .tuple vs) (u : Value)
    (hr : vs[i]? = some u) : (execOp a.eval op).run P w = .ok (.value (u)) w := by
  unfold execOp; simp only [ho, hx, Instr.extract, hr]; rfl
theorem rn_func (f : Fn) (x y : Array Operand) (ho : op.op = .makeFunc f x y) (vs us : Array Value) (hx : x.map a.eval = vs) (hy : y.map a.eval = us) : (execOp a.eval op).run P w = .ok (.value ((.func f vs us))) w := by
  unfold execOp; simp only [ho, hx, hy]; rfl
theorem rn_load1 (hm : MM S w0 w L) (key : Nat) {o : Bool} {b : Nat} {T0 : TypeId} {A : Array Value} (hl : L.lookup key = some ⟨o, b, T0, A⟩) (T : TypeId) (x : Operand) (ho : op.op = .load T x) (off : Nat)
    (hx : a.eval x = .pointer (some ⟨b, off, none⟩)) (hT : OneT P T) (v : Value) (hv : A[off]? = some v) : (execOp a.eval op).run P w = .ok (.value (v)) w := by
  have hc : w.cell? ⟨b, off, none⟩ = some v := ((hm.has key _ hl).cell off).trans hv
  unfold execOp
  simp only [ho, hx, Instr.loadAt, Instr.sureAddr, loadVar, Sem.run_bind, Sem.run_pure, Result.andThen_ok, hT.agg, run_load, hc, Bool.false_eq_true, if_false]
theorem rn_loadA (hm : MM S w0 w L) (key : Nat) {o : Bool} {b : Nat} {T0 : TypeId} {A : Array Value} (hl : L.lookup key = some ⟨o, b, T0, A⟩) (T : TypeId) (x : Operand) (ho : op.op = .load T x) (off : Nat)
    (hx : a.eval x = .pointer (some ⟨b, off, none⟩)) (m : Nat) (hT : AggT P T m) (C : Array Value) (hC : A.extract off (off + m) = C) (hz : C.size = m) : (execOp a.eval op).run P w = .ok (.value ((.agg C))) w := by
  have hb := hm.has key _ hl
  have hr := World.rangeAt_of_block (w := w) (b := b) (C := A) (t := T0) (fr := (0, 0)) hb off m
  have hl : (loadCells ⟨b, off, none⟩ m).run P w = .ok C w := by
    have := run_loadCells_list (P := P) w ⟨b, off, none⟩ (A.extract off (off + m)).toList (fun j v hv => by rw [Addr.add_mid]; exact hr j v hv)
    rw [hC] at this
    simpa [hz] using this
  unfold execOp
  simp only [ho, hx, Instr.loadAt, Instr.sureAddr, loadVar, Sem.run_bind, Sem.run_pure, Result.andThen_ok, hT.agg, hT.size, hl, if_true]
theorem wl_box (he : EV a n d env) (hm : MM S w0 w L) (key : Nat) (hk : L.lookup key = none) (hd : op.dst.all (· < n) = true) (hw : Region.wanted op (yielded ops a.tmps) = true) (T : TypeId) (x : Operand) (ho : op.op = .box T x) (v : Value) (hx : a.eval x = v) (A : Array Value) (hA : v.cells = A)
    (k : ∀ a' w' b, EV a' n d (putE env op.dst (.pointer (some ⟨b, 0, none⟩))) → MM S w0 w' ((key, ⟨true, b, T, A⟩) :: L) → wpList P ops Q rest a' w') : wpList P ops Q (op :: rest) a w := by
  unfold wpList
  rw [if_pos hw]
  refine .inl ?_
  unfold Oper.wp
  have : (execOp a.eval op).run P w = .ok (.value (.pointer (some ⟨w.heap.size, 0, none⟩))) (w.alloc (.cells A T)) := by
    unfold execOp
    simp only [ho, hx, ← hA]
    rfl
  rw [this]
  exact k _ _ _ (he.putO _ _ hd) (hm.alloc key T A hk)
theorem wl_alloc (he : EV a n d env) (hm : MM S w0 w L) (key : Nat) (hk : L.lookup key = none) (hd : op.dst.all (· < n) = true) (hw : Region.wanted op (yielded ops a.tmps) = true) (T : TypeId) (ho : op.op = .alloc T) (z : Value) (hz : ∀ w, (zeroValue T).run P w = .ok z w) (A : Array Value) (hA : z.cells = A)
    (k : ∀ a' w' b, EV a' n d (putE env op.dst (.pointer (some ⟨b, 0, none⟩))) → MM S w0 w' ((key, ⟨true, b, T, A⟩) :: L) → wpList P ops Q rest a' w') : wpList P ops Q (op :: rest) a w := by
  unfold wpList
  rw [if_pos hw]
  refine .inl ?_
  unfold Oper.wp
  have : (execOp a.eval op).run P w = .ok (.value (.pointer (some ⟨w.heap.size, 0, none⟩))) (w.alloc (.cells A T)) := by
    unfold execOp
    simp only [ho, ← hA, Instr.alloc, Sem.run_bind, hz, Result.andThen_ok]
    rfl
  rw [this]
  exact k _ _ _ (he.putO _ _ hd) (hm.alloc key T A hk)
theorem wl_store (he : EV a n d env) (hm : MM S w0 w L) (key : Nat) {b : Nat} {T0 : TypeId} {A : Array Value} (hl : L.lookup key = some ⟨true, b, T0, A⟩) (hd : op.dst = none) (hw : Region.wanted op (yielded ops a.tmps) = true) (T : TypeId) (x y : Operand) (ho : op.op = .store T x y) (off : Nat)
    (hx : a.eval x = .pointer (some ⟨b, off, none⟩)) (v : Value) (hy : a.eval y = v) (m : Nat) (hT : ∀ w, (sizeOf T).run P w = .ok m w) (hz : v.cells.size = m) (hc : v.cells.all (·.oneCell') = true) (hin : off + m ≤ A.size) (A' : Array Value) (hA : ovw A off v.cells.toList = A')
    (k : ∀ w', MM S w0 w' ((key, ⟨true, b, T0, A'⟩) :: L) → wpList P ops Q rest a w') : wpList P ops Q (op :: rest) a w := by
  unfold wpList
  rw [if_pos hw]
  refine .inl ?_
  unfold Oper.wp
  have hb := hm.has key _ hl
  have hs := run_storeCells_cells (P := P) b off v.cells.toList 0 w
    (fun j hj => by rw [hb.cell]; simp at hj ⊢; omega)
    (fun j hj => hb.frozen _)
    (fun u hu => (Array.all_eq_true_iff_forall_mem.1 hc) u (by simpa using hu))
  simp only [Nat.add_zero] at hs
  have : (execOp a.eval op).run P w = .ok .skip (w.setCells b off v.cells.toList) := by
    unfold execOp
    simp [ho, hx, hy, Instr.storeAt, Instr.sureAddr, storeVar, Sem.run_bind, Sem.run_pure, hT, hz, hs]
  rw [this]
  show wpList P ops Q rest (a.put op.dst undef) _
  rw [hd]
  have := hm.sets key b T0 A hl off v.cells.toList
  rw [hA] at this
  exact k _ this
/-- A call of a function by its contract: it answers v, and keeps what is there. -/
theorem wl_call (he : EV a n d env) (hm : MM S w0 w L) (hd : op.dst.all (· < n) = true) (hw : Region.wanted op (yielded ops a.tmps) = true) (f : FuncId) (args : Array Value) (hr : (execOp a.eval op).run P w = .ok (.enter f args) w) (v : Value)
    (hc : Calls P f args w fun e w' => e = .returned v ∧ Below w.heap.size w w')
    (k : ∀ a' w', EV a' n d (putE env op.dst v) → MM S w0 w' L → wpList P ops Q rest a' w') : wpList P ops Q (op :: rest) a w := by
  unfold wpList
  rw [if_pos hw]
  refine .inl ?_
  unfold Oper.wp
  rw [hr]
  refine hc.mono ?_
  rintro e w' ⟨rfl, hb⟩
  exact k _ _ (he.putO _ _ hd) (hm.kb (KB.of_below hb))
theorem rn_build (T : TypeId) (parts : Array (Nat × Operand)) (ho : op.op = .build T parts) (vs : Array (Nat × Value)) (hx : parts.map (fun (i, x) => (i, a.eval x)) = vs) (u : Value) (hr : (Instr.build T vs).run P w = .ok u w) : (execOp a.eval op).run P w = .ok (.value u) w := by
  unfold execOp; simp only [ho, hx, Sem.run_bind, hr]; rfl
end steps

theorem least_ex (p : Nat → Prop) : ∀ m, p m → ∃ m, p m ∧ ∀ k, p k → m ≤ k := by
  intro m
  induction m using Nat.strongRecOn with
  | _ m ih =>
    intro hm
    by_cases h : ∃ k, k < m ∧ p k
    · obtain ⟨k, hk, hp⟩ := h; exact ih k hk hp
    · exact ⟨m, hm, fun k hk => by rcases Nat.lt_or_ge k m with h' | h'; exact absurd ⟨k, h', hk⟩ h; exact h'⟩
noncomputable def leastOf (p : Nat → Prop) : Nat := by
  classical
  exact if h : ∃ m, p m then Classical.choose (least_ex p h.choose h.choose_spec) else 0
theorem leastOf_spec {p : Nat → Prop} (h : ∃ m, p m) : p (leastOf p) ∧ ∀ k, p k → leastOf p ≤ k := by
  unfold leastOf
  rw [dif_pos h]
  exact Classical.choose_spec (least_ex p h.choose h.choose_spec)
section codes
variable {P : Program} {Q : Exit → Act → World → Prop} {a : Act} {w : World} {n : Nat} {d : List Deferred} {env : List (Nat × Value)}
theorem wp_seqR {id : Nat} {l : List Oper} {y : Code} (h : wpList P l.toArray (Exit.then (y.wp P Q) Q) l a w) : (Code.seq (.region id l.toArray false) y).wp P Q a w := wp_seq (wp_region_lit h)
theorem wl_end {ops : Array Oper} {y : Code} (h : y.wp P Q a w) : wpList P ops (Exit.then (y.wp P Q) Q) [] a w := wpList_nil h
theorem then_normal {y : Code} (h : y.wp P Q a w) : Exit.then (y.wp P Q) Q .normal a w := h
theorem in_normal {id : Nat} (h : Q .normal a w) : Exit.inBlock id Q .normal a w := h
theorem exit_here {id : Nat} (h : Q .normal a w) : Exit.inBlock id Q (.exit id) a w := by simp only [Exit.inBlock, if_true]; exact h
theorem exit_then {K : Act → World → Prop} {id : Nat} (h : Q (.exit id) a w) : Exit.then K Q (.exit id) a w := h
theorem ret_then {K : Act → World → Prop} (h : Q .ret a w) : Exit.then K Q .ret a w := h
theorem ret_in {id : Nat} (h : Q .ret a w) : Exit.inBlock id Q .ret a w := h
theorem wp_condT {he : EV a n d env} {t : Nat} {x y : Code} (hl : env.lookup t = some (.bool true)) (h : x.wp P Q a w) : (Code.cond (.tmp t) x y).wp P Q a w := wp_cond_true (he.tmp t _ hl) h
theorem wp_condF {he : EV a n d env} {t : Nat} {x y : Code} (hl : env.lookup t = some (.bool false)) (h : y.wp P Q a w) : (Code.cond (.tmp t) x y).wp P Q a w := wp_cond_false (he.tmp t _ hl) h
/-- A loop by a number that falls. -/
theorem wp_loopN {c : Code} (I : Nat → Act → World → Prop) (h0 : ∃ m, I m a w) (round : ∀ m a w, I m a w → c.wp P (Exit.then (fun a' w' => ∃ m', m' < m ∧ I m' a' w') Q) a w) : (Code.loop c).wp P Q a w := by
  refine wp_loop (fun a w => ∃ m, I m a w) (fun a w => leastOf fun m => I m a w) h0 ?_
  intro a w hI
  refine Code.wp_mono ?_ (round _ a w (leastOf_spec hI).1)
  intro e a' w' hq
  cases e with
  | normal =>
    obtain ⟨m', hlt, hI'⟩ := hq
    exact ⟨⟨m', hI'⟩, Nat.lt_of_le_of_lt ((leastOf_spec ⟨m', hI'⟩).2 m' hI') hlt⟩
  | _ => exact hq
end codes
theorem pmap1 {f : Operand → Value} {i : Nat} {x : Operand} {u : Value} (h : f x = u) : #[(i, x)].map (fun (p : Nat × Operand) => (p.1, f p.2)) = #[(i, u)] := by simp [h]
theorem pmap2 {f : Operand → Value} {i j : Nat} {x y : Operand} {u v : Value} (h : f x = u) (h2 : f y = v) : #[(i, x), (j, y)].map (fun (p : Nat × Operand) => (p.1, f p.2)) = #[(i, u), (j, v)] := by simp [h, h2]
end Go.Proofs.Ytkaekiodjjhjkaa
namespace Go.Proofs.Ytkaekiodjjhjkaa
open Go.RowKit
set_option linter.unusedVariables false
set_option linter.unusedSimpArgs false

def EnvOk (l : Array Value) : List (Nat × Value) → Prop
  | [] => True
  | (t, v) :: r => l[t]? = some v ∧ EnvOk l r
theorem EnvOk.mem {l : Array Value} : ∀ {env : List (Nat × Value)}, EnvOk l env → ∀ p ∈ env, l[p.1]? = some p.2
  | [], _, _, hp => by simp at hp
  | (t, v) :: r, h, p, hp => by
    rcases List.mem_cons.1 hp with rfl | hp
    · exact h.1
    · exact EnvOk.mem h.2 p hp
theorem calls_begin {P : Program} {f : FuncId} {fn : Func} {c : Code} {args : Array Value} {w : World} {R : Ending → World → Prop} (hf : P.funcs[f]? = some fn) (hb : fn.body = some c)
    (n : Nat) (hn : fn.ntmps = n) (hsz : args.size ≤ n) (env : List (Nat × Value)) (henv : EnvOk args env)
    (h : ∀ a, EV a n [] env → MM [] w w [] → c.wp P (bodyPost P fn R) a w) : Calls P f args w R := by
  refine calls_of_wp hf hb (h _ (EV.begin _ _ _ (by simp; omega) env fun p hp => ?_) (MM.nil w))
  have := henv.mem p hp
  have hlt : p.1 < args.size := by
    rcases Nat.lt_or_ge p.1 args.size with h | h
    · exact h
    · simp [Array.getElem?_eq_none h] at this
  rw [Array.getElem?_append_left hlt]; exact this
theorem map0 (f : Operand → Value) : (#[] : Array Operand).map f = #[] := by simp
theorem map1 {f : Operand → Value} {x : Operand} {u : Value} (h : f x = u) : #[x].map f = #[u] := by simp [h]
theorem map2 {f : Operand → Value} {x y : Operand} {u v : Value} (h : f x = u) (h2 : f y = v) : #[x, y].map f = #[u, v] := by simp [h, h2]
theorem map3 {f : Operand → Value} {x y z : Operand} {u v t : Value} (h : f x = u) (h2 : f y = v) (h3 : f z = t) : #[x, y, z].map f = #[u, v, t] := by simp [h, h2, h3]
section
variable {P : Program} {op : Oper} {a : Act} {w w0 : World} {S : List Nat} {L : List (Nat × Ent)} {n : Nat} {d : List Deferred} {env : List (Nat × Value)} {fn : Func}
theorem enter_call (cal : Operand) (x : Array Operand) (tys : Array TypeId) (ho : op.op = .call { callee := .value cal, args := x, argTypes := tys }) (f : FuncId) (first cap : Array Value) (hcal : a.eval cal = .func (.func f) first cap)
    (args0 : Array Value) (hx : x.map a.eval = args0) (args : Array Value) (hargs : first ++ args0 ++ cap = args) (hf : ∀ args w, (callFunc f args).run P w = .ok (.enter f args) w) : (execOp a.eval op).run P w = .ok (.enter f args) w := by
  unfold execOp
  simp only [ho, resolve, hcal, hx, Deferred.ofValue, Sem.run_bind, Sem.run_pure, Result.andThen_ok, invoke, hargs, hf]
theorem results_cell (he : EV a n d env) (hm : MM S w0 w L) (t : Tmp) (T : TypeId) (hres : fn.results = #[.cell t T]) (b : Nat) (hl : env.lookup t = some (.pointer (some ⟨b, 0, none⟩))) (key : Nat) {o : Bool} {T0 : TypeId} {A : Array Value}
    (hk : L.lookup key = some ⟨o, b, T0, A⟩) (m : Nat) (hT : AggT P T m) (hz : A.size = m) : (results fn a.tmps).run P w = .ok (.agg A) w := by
  have hb := hm.has key _ hk
  have hr := World.rangeAt_of_block (w := w) (b := b) (C := A) (t := T0) (fr := (0, 0)) hb 0 m
  have hC : A.extract 0 (0 + m) = A := by rw [Nat.zero_add, ← hz]; exact Array.extract_size
  have hll : (loadCells ⟨b, 0, none⟩ m).run P w = .ok A w := by
    have := run_loadCells_list (P := P) w ⟨b, 0, none⟩ (A.extract 0 (0 + m)).toList (fun j v hv => by rw [Addr.add_mid]; exact hr j v hv)
    rw [hC] at this
    simpa [hz] using this
  simp only [results, hres]
  simp [he.has t _ hl, he.at t _ hl, asAddr, loadVar, Sem.run_bind, hT.agg, hT.size, hll, Result.andThen]
theorem results_tmp (he : EV a n d env) (t : Tmp) (hres : fn.results = #[.tmp t]) (v : Value) (hl : env.lookup t = some v) : (results fn a.tmps).run P w = .ok v w := by
  simp only [results, hres]
  simp [he.has t _ hl, he.at t _ hl, Sem.run_bind, Result.andThen]
theorem results_tmp2 (he : EV a n d env) (t u : Tmp) (hres : fn.results = #[.tmp t, .tmp u]) (v x : Value) (hl : env.lookup t = some v) (hl2 : env.lookup u = some x) : (results fn a.tmps).run P w = .ok (.tuple #[v, x]) w := by
  simp only [results, hres]
  simp [he.has t _ hl, he.at t _ hl, he.has u _ hl2, he.at u _ hl2, Sem.run_bind, Result.andThen]
end
/-- What a function that may panic with a trap answers. -/
theorem callsV {P : Program} {f : FuncId} {args : Array Value} {w : World} {u v : Value} (h : u = v) (c : Calls P f args w fun e w' => e = .returned u ∧ Below w.heap.size w w') : Calls P f args w fun e w' => e = .returned v ∧ Below w.heap.size w w' := h ▸ c
theorem callsS {P : Program} {f : FuncId} {args : Array Value} {w : World} {u : Value} (c : Calls P f args w fun e w' => e = .returned u ∧ w' = w) : Calls P f args w fun e w' => e = .returned u ∧ Below w.heap.size w w' :=
  c.mono fun e w' ⟨h1, h2⟩ => ⟨h1, h2 ▸ Below.refl _ _⟩
end Go.Proofs.Ytkaekiodjjhjkaa
namespace Go.Proofs.Ytkaekiodjjhjkaa
open Go.RowKit
set_option linter.unusedVariables false
set_option linter.unusedSimpArgs false

def SubL (L : List (Nat × Ent)) : List (Nat × Ent) → Prop
  | [] => True
  | (k, e) :: r => L.lookup k = some e ∧ SubL L r
theorem SubL.sub {L : List (Nat × Ent)} : ∀ {L' : List (Nat × Ent)}, SubL L L' → ∀ k e, L'.lookup k = some e → L.lookup k = some e
  | [], _, k, e, h => by simp at h
  | (j, f) :: r, hs, k, e, h => by
    rw [lk] at h
    split at h
    · rename_i hk; subst hk; cases h; exact hs.1
    · exact SubL.sub hs.2 k e h
theorem MM.sub {S : List Nat} {w0 w : World} {L : List (Nat × Ent)} (h : MM S w0 w L) (L' : List (Nat × Ent)) (hs : SubL L L') : MM S w0 w L' :=
  ⟨h.keep, fun k e hk => h.has k e (hs.sub k e hk), fun k e hk => h.own k e (hs.sub k e hk), fun j k e f hj hk => h.apart j k e f (hs.sub j e hj) (hs.sub k f hk)⟩
theorem MM.drew {S : List Nat} {w0 w : World} {L : List (Nat × Ent)} (h : MM S w0 w L) : MM S w0 w.drew L :=
  ⟨⟨h.keep.os, h.keep.tape, h.keep.output, h.keep.size, h.keep.block⟩, h.has, h.own, h.apart⟩

section
variable {P : Program} {ops : Array Oper} {Q : Exit → Act → World → Prop} {SS : World → Prop} {a : Act} {w w0 : World} {S : List Nat} {L Ls : List (Nat × Ent)}
  {n : Nat} {d : List Deferred} {env : List (Nat × Value)} {fuel : Nat} {listed : Array Bool}
theorem wh_begin {id : Nat} (hx : P.follows .mixedOrders = true) (hm : MM S w0 w L) (Ls : List (Nat × Ent)) (hs : SubL L Ls)
    (k : ∀ w', MM S w0 w' L → wpAnyH P .any ops Q (fun w' => MM S w0 w' Ls) ops.size (Array.replicate ops.size false) a w') : (Code.region id ops true).wp P Q a w :=
  wp_region_held_drew (S := fun w' => MM S w0 w' Ls) hx (hm.drew.sub Ls hs) fun _ => k _ hm.drew
theorem wh_take {i : Nat} {op : Oper} (hi : ops[i]? = some op) (hs : Region.noSelect ops = true) (hf : Region.free .any ops listed i = true) (hr : (Region.ready .any ops listed).contains i = true)
    (hQ : ∀ c a w, Q (.panic c) (a.put op.dst undef) w → Q (.panic c) a w) (hQ2 : ∀ v c a w, Q (.panic c) (a.put op.dst v) w → Q (.panic c) a w) (he : EV a n d env) (hm : MM S w0 w L) (hS : SubL L Ls) (hd : op.dst.all (· < n) = true) (hw : Region.wanted op (yielded ops a.tmps) = true) (v : Value)
    (hy : ∀ w', MM S w0 w' Ls → (execOp a.eval op).run P w' = .ok (.value v) w')
    (k : ∀ a', EV a' n d (putE env op.dst v) → wpAnyH P .any ops Q (fun w' => MM S w0 w' Ls) fuel (listed.setIfInBounds i true) a' w) : wpAnyH P .any ops Q (fun w' => MM S w0 w' Ls) (fuel + 1) listed a w :=
  wpAnyH_take hi hs hf hr (hQ2 v) (Or.inl ⟨hw, hy⟩) (hm.sub Ls hS) (k _ (he.putO _ _ hd))
theorem wh_takeN {i : Nat} {op : Oper} (hi : ops[i]? = some op) (hs : Region.noSelect ops = true) (hf : Region.free .any ops listed i = true) (hr : (Region.ready .any ops listed).contains i = true)
    (hQ2 : ∀ v c a w, Q (.panic c) (a.put op.dst v) w → Q (.panic c) a w) (he : EV a n d env) (hm : MM S w0 w L) (hS : SubL L Ls) (hd : op.dst.all (· < n) = true) (hw : Region.wanted op (yielded ops a.tmps) = false)
    (k : ∀ a', EV a' n d (putE env op.dst undef) → wpAnyH P .any ops Q (fun w' => MM S w0 w' Ls) fuel (listed.setIfInBounds i true) a' w) : wpAnyH P .any ops Q (fun w' => MM S w0 w' Ls) (fuel + 1) listed a w :=
  wpAnyH_take hi hs hf hr (hQ2 undef) (Or.inr ⟨hw, rfl⟩) (hm.sub Ls hS) (k _ (he.putO _ _ hd))
theorem tk (op : Oper) {i : Nat} (he : EV a n d env) (hm : MM S w0 w L) (hS : SubL L Ls) (v : Value) (hi : ops[i]? = some op) (hc : Region.noSelect ops = true ∧ Region.free .any ops listed i = true ∧ (Region.ready .any ops listed).contains i = true)
    (hq : (∀ v c a w, Q (.panic c) (a.put op.dst v) w → Q (.panic c) a w) ∧ op.dst.all (· < n) = true ∧ Region.wanted op (yielded ops a.tmps) = true)
    (hy : ∀ w', MM S w0 w' Ls → (execOp a.eval op).run P w' = .ok (.value v) w')
    (k : ∀ a', EV a' n d (putE env op.dst v) → wpAnyH P .any ops Q (fun w' => MM S w0 w' Ls) fuel (listed.setIfInBounds i true) a' w) : wpAnyH P .any ops Q (fun w' => MM S w0 w' Ls) (fuel + 1) listed a w :=
  wh_take hi hc.1 hc.2.1 hc.2.2 (fun c a w => hq.1 undef c a w) hq.1 he hm hS hq.2.1 hq.2.2 v hy k
theorem tkN (op : Oper) {i : Nat} (he : EV a n d env) (hm : MM S w0 w L) (hS : SubL L Ls) (hi : ops[i]? = some op) (hc : Region.noSelect ops = true ∧ Region.free .any ops listed i = true ∧ (Region.ready .any ops listed).contains i = true)
    (hq : (∀ v c a w, Q (.panic c) (a.put op.dst v) w → Q (.panic c) a w) ∧ op.dst.all (· < n) = true ∧ Region.wanted op (yielded ops a.tmps) = false)
    (k : ∀ a', EV a' n d (putE env op.dst undef) → wpAnyH P .any ops Q (fun w' => MM S w0 w' Ls) fuel (listed.setIfInBounds i true) a' w) : wpAnyH P .any ops Q (fun w' => MM S w0 w' Ls) (fuel + 1) listed a w :=
  wh_takeN hi hc.1 hc.2.1 hc.2.2 hq.1 he hm hS hq.2.1 hq.2.2 k
/-- The one that comes up, carried out. -/
theorem wh_one {i : Nat} {op : Oper} (hr : Region.ready .any ops listed = [i]) (hi : ops[i]? = some op) (hw : Region.wanted op (yielded ops a.tmps) = true)
    (h : ∀ K : Act → World → Prop, (∀ a w, SS w → wpAnyH P .any ops Q SS fuel (listed.setIfInBounds i true) a w → K a w) → op.wp P a w K Q) : wpAnyH P .any ops Q SS (fuel + 1) listed a w := by
  refine wpAnyH_ready (rs := [i]) hr (by simp) (AllReadyH.cons hi (fun K hK => ?_) AllReadyH.nil)
  rw [if_pos hw]
  exact h K fun a w hS hq => hK.out a w hS fun _ => hq
theorem wh_call {i : Nat} {op : Oper} (hr : Region.ready .any ops listed = [i]) (hi : ops[i]? = some op) (he : EV a n d env) (hm : MM S w0 w L) (hS : SubL L Ls) (hd : op.dst.all (· < n) = true) (hw : Region.wanted op (yielded ops a.tmps) = true)
    (f : FuncId) (args : Array Value) (hrun : (execOp a.eval op).run P w = .ok (.enter f args) w) (v : Value) (hc : Calls P f args w fun e w' => e = .returned v ∧ Below w.heap.size w w')
    (k : ∀ a' w', EV a' n d (putE env op.dst v) → MM S w0 w' L → wpAnyH P .any ops Q (fun w' => MM S w0 w' Ls) fuel (listed.setIfInBounds i true) a' w') : wpAnyH P .any ops Q (fun w' => MM S w0 w' Ls) (fuel + 1) listed a w := by
  refine wh_one hr hi hw fun K hK => ?_
  unfold Oper.wp
  rw [hrun]
  refine hc.mono ?_
  rintro e w' ⟨rfl, hb⟩
  have hm' := hm.kb (KB.of_below hb)
  exact hK _ _ (hm'.sub Ls hS) (k _ _ (he.putO _ _ hd) hm')
/-- The one that comes up, not wanted. -/
theorem wh_pass {i : Nat} {op : Oper} (hr : Region.ready .any ops listed = [i]) (hi : ops[i]? = some op) (he : EV a n d env) (hm : MM S w0 w L) (hS : SubL L Ls) (hd : op.dst.all (· < n) = true) (hw : Region.wanted op (yielded ops a.tmps) = false)
    (k : ∀ a', EV a' n d (putE env op.dst undef) → wpAnyH P .any ops Q (fun w' => MM S w0 w' Ls) fuel (listed.setIfInBounds i true) a' w) : wpAnyH P .any ops Q (fun w' => MM S w0 w' Ls) (fuel + 1) listed a w := by
  refine wpAnyH_ready (rs := [i]) hr (by simp) (AllReadyH.cons hi (fun K hK => ?_) AllReadyH.nil)
  rw [if_neg (by rw [hw]; decide)]
  exact hK.out _ _ (hm.sub Ls hS) fun _ => k _ (he.putO _ _ hd)
theorem wh_store {i : Nat} {op : Oper} (hr : Region.ready .any ops listed = [i]) (hi : ops[i]? = some op) (he : EV a n d env) (hm : MM S w0 w L) (key : Nat) {b : Nat} {T0 : TypeId} {A : Array Value} (hl : L.lookup key = some ⟨true, b, T0, A⟩) (hd : op.dst = none) (hw : Region.wanted op (yielded ops a.tmps) = true) (T : TypeId) (x y : Operand) (ho : op.op = .store T x y) (off : Nat)
    (hx : a.eval x = .pointer (some ⟨b, off, none⟩)) (v : Value) (hy : a.eval y = v) (m : Nat) (hT : ∀ w, (sizeOf T).run P w = .ok m w) (hz : v.cells.size = m) (hc : v.cells.all (·.oneCell') = true) (hin : off + m ≤ A.size) (A' : Array Value) (hA : ovw A off v.cells.toList = A')
    (hS : SubL ((key, ⟨true, b, T0, A'⟩) :: L) Ls)
    (k : ∀ w', MM S w0 w' ((key, ⟨true, b, T0, A'⟩) :: L) → wpAnyH P .any ops Q (fun w' => MM S w0 w' Ls) fuel (listed.setIfInBounds i true) a w') : wpAnyH P .any ops Q (fun w' => MM S w0 w' Ls) (fuel + 1) listed a w := by
  refine wh_one hr hi hw fun K hK => ?_
  unfold Oper.wp
  have hb := hm.has key _ hl
  have hs := run_storeCells_cells (P := P) b off v.cells.toList 0 w
    (fun j hj => by rw [hb.cell]; simp at hj ⊢; omega)
    (fun j hj => hb.frozen _)
    (fun u hu => (Array.all_eq_true_iff_forall_mem.1 hc) u (by simpa using hu))
  simp only [Nat.add_zero] at hs
  have : (execOp a.eval op).run P w = .ok .skip (w.setCells b off v.cells.toList) := by
    unfold execOp
    simp [ho, hx, hy, Instr.storeAt, Instr.sureAddr, storeVar, Sem.run_bind, Sem.run_pure, hT, hz, hs]
  rw [this]
  show K (a.put op.dst undef) _
  rw [hd]
  have hm' := hm.sets key b T0 A hl off v.cells.toList
  rw [hA] at hm'
  exact hK _ _ (hm'.sub Ls hS) (k _ hm')
end
end Go.Proofs.Ytkaekiodjjhjkaa
namespace Go.Proofs.Ytkaekiodjjhjkaa
open Go.RowKit
set_option linter.unusedVariables false
set_option linter.unusedSimpArgs false

def EvSub (env : List (Nat × Value)) : List (Nat × Value) → Prop
  | [] => True
  | (t, v) :: r => env.lookup t = some v ∧ EvSub env r
theorem EvSub.sub {env : List (Nat × Value)} : ∀ {env' : List (Nat × Value)}, EvSub env env' → ∀ t v, env'.lookup t = some v → env.lookup t = some v
  | [], _, t, v, h => by simp at h
  | (s, u) :: r, hs, t, v, h => by
    rw [List.lookup_cons] at h
    by_cases e : t = s
    · subst e; simp at h; subst h; exact hs.1
    · rw [show (t == s) = false by simpa using e] at h
      exact EvSub.sub hs.2 t v h
theorem EV.sub {a : Act} {n : Nat} {d : List Deferred} {env : List (Nat × Value)} (h : EV a n d env) (env' : List (Nat × Value)) (hs : EvSub env env') : EV a n d env' :=
  ⟨h.size, h.defers, fun t v hl => h.has t v (hs.sub t v hl)⟩

/-- A row of the call's own: of n elements, with room for cap, that are xs. -/
structure Rw (cur : Array Value) (n cap size : Nat) (xs : List Value) : Prop where
  le : n ≤ cap
  max : cap ≤ maxLen
  room : cur.size = cap * size
  is : cur.toList.take (n * size) = xs
theorem Rw.len {cur : Array Value} {n cap size : Nat} {xs : List Value} (h : Rw cur n cap size xs) : xs.length = n * size := by
  rw [← h.is, List.length_take, Array.length_toList, h.room]
  exact Nat.min_eq_left (Nat.mul_le_mul_right _ h.le)
theorem Rw.get {cur : Array Value} {n cap size : Nat} {xs : List Value} (h : Rw cur n cap size xs) (j : Nat) (v : Value) (hv : xs[j]? = some v) : cur[j]? = some v := by
  rw [← h.is, List.getElem?_take] at hv
  split at hv
  · simpa using hv
  · cases hv
theorem MM.setRow {S : List Nat} {w0 w : World} {L : List (Nat × Ent)} (h : MM S w0 w L) (key : Nat) (b : Nat) (T : TypeId) (A : Array Value) (hl : L.lookup key = some ⟨true, b, T, A⟩) (A' : Array Value) :
    MM S w0 (w.setRow b A') ((key, ⟨true, b, T, A'⟩) :: L) := by
  have hb := h.has key _ hl
  exact h.kb1 key b T A A' hl ⟨rfl, rfl, rfl, by simp, fun k _ hk => setRow_other w b k _ (fun e => hk (by simp [e]))⟩ (setRow_heap w b A A' T _ hb)

section
variable {P : Program} {ops : Array Oper} {Q : Exit → Act → World → Prop} {rest : List Oper} {op : Oper} {a : Act} {w w0 : World} {S : List Nat} {L : List (Nat × Ent)}
  {n : Nat} {d : List Deferred} {env : List (Nat × Value)}
theorem rn_builtin (x : Array Operand) (tys : Array TypeId) (b : Builtin) (ho : op.op = .call { callee := .builtin b, args := x, argTypes := tys }) (args : Array Value) (hx : x.map a.eval = args) (u : Value)
    (hr : (builtin b tys op.type (x.map fun | .const _ => true | _ => false) args).run P w = .ok (.value u) w) : (execOp a.eval op).run P w = .ok (.value u) w := by
  unfold execOp; simp only [ho, resolve, hx, Sem.run_bind, Sem.run_pure, Result.andThen_ok, invoke]; exact hr
theorem wl_buildSlice (he : EV a n d env) (hm : MM S w0 w L) (key : Nat) (hk : L.lookup key = none) (hd : op.dst.all (· < n) = true) (hw : Region.wanted op (yielded ops a.tmps) = true) (T : TypeId) (len : Nat) (parts : Array (Nat × Operand)) (ho : op.op = .buildSlice T len parts) (vs : Array (Nat × Value))
    (hx : parts.map (fun (i, x) => (i, a.eval x)) = vs) (e : TypeId) (A : Array Value) (hr : (Instr.buildSlice T len vs).run P w = .ok (.slice (some ⟨w.heap.size, 0, none⟩) len len) (w.alloc (.cells A e)))
    (k : ∀ a' w' b, EV a' n d (putE env op.dst (.slice (some ⟨b, 0, none⟩) len len)) → MM S w0 w' ((key, ⟨true, b, e, A⟩) :: L) → wpList P ops Q rest a' w') : wpList P ops Q (op :: rest) a w := by
  unfold wpList
  rw [if_pos hw]
  refine .inl ?_
  unfold Oper.wp
  have : (execOp a.eval op).run P w = .ok (.value (.slice (some ⟨w.heap.size, 0, none⟩) len len)) (w.alloc (.cells A e)) := by
    unfold execOp
    simp only [ho, hx, Sem.run_bind, hr]; rfl
  rw [this]
  exact k _ _ _ (he.putO _ _ hd) (hm.alloc key e A hk)
theorem pmap0 (f : Operand → Value) : (#[] : Array (Nat × Operand)).map (fun (p : Nat × Operand) => (p.1, f p.2)) = #[] := by simp

/-- What is asked of the type of a row's elements. -/
structure ElT (P : Program) (t e : TypeId) (z : Value) (size bytes : Nat) : Prop where
  und : P.underlying t = some (.slice e)
  info : (P.info? e).map (fun i => (i.zero, i.size, i.bytes)) = some (some z, size, bytes)
  zs : z.cells.size = size
  pos : 0 < size
theorem ElT.get {P : Program} {t e : TypeId} {z : Value} {size bytes : Nat} (E : ElT P t e z size bytes) : ∃ i, P.info? e = some i ∧ i.zero = some z ∧ i.size = size ∧ i.bytes = bytes := by
  have := E.info
  cases h : P.info? e with
  | none => simp [h] at this
  | some i =>
    rw [h] at this
    simp only [Option.map_some, Option.some.injEq, Prod.mk.injEq] at this
    exact ⟨i, rfl, this.1, this.2.1, this.2.2⟩
theorem run_app {t ty e : TypeId} {z : Value} {size bytes : Nat} (E : ElT P t e z size bytes) (g cap k : Nat) (cur : Array Value) (xs : List Value) (hb : BX w g e cur) (hrw : Rw cur k cap size xs)
    (ad : Addr) (m c : Nat) (news : List Value) (hl : news.length = m * size) (hnews : ∀ j u, news[j]? = some u → w.cell? (ad.add j) = some u) (h1 : ∀ u ∈ news, u.oneCell' = true)
    (h63 : k + m ≤ maxLen) (hbytes : (k + m) * bytes ≤ 140737488355328) :
    (∃ cur', Rw cur' (k + m) cap size (xs ++ news) ∧ (Builtin.append_ #[t, t] ty #[.slice (some ⟨g, 0, none⟩) k cap, .slice (some ad) m c]).run P w = .ok (.slice (some ⟨g, 0, none⟩) (k + m) cap) (w.setRow g cur')) ∨
    (∃ cap' cur', Rw cur' (k + m) cap' size (xs ++ news) ∧ (Builtin.append_ #[t, t] ty #[.slice (some ⟨g, 0, none⟩) k cap, .slice (some ad) m c]).run P w = .ok (.slice (some ⟨w.heap.size, 0, none⟩) (k + m) cap') (w.drew.alloc (.cells cur' e))) := by
  obtain ⟨i, hi, hz, rfl, rfl⟩ := E.get
  have ht := E.und
  have hzs := E.zs
  have hsz := E.pos
  have hlen : (xs ++ news).length = (k + m) * i.size := by rw [List.length_append, hrw.len, hl, Nat.add_mul]
  have hsmall : k + m ≤ 9223372036854775807 := by simp only [maxLen] at h63; omega
  by_cases hroom : k + m ≤ cap
  · left
    have hfit : k * i.size + news.length ≤ cur.size := by rw [hl, hrw.room, ← Nat.add_mul]; exact Nat.mul_le_mul_right _ hroom
    refine ⟨_, ⟨hroom, hrw.max, ?_, ?_⟩, run_append_room (P := P) w t ty e i ht hi g k cap cur hb ad m c news hl hnews h1 hroom hfit⟩
    · have := hrw.room
      simp only [List.size_toArray, List.length_append, List.length_take, List.length_drop, Array.length_toList]
      omega
    · simp only
      rw [hrw.is, ← hlen]
      exact List.take_left
  · right
    have hge := grownCap_ge w (k + m) cap e
    have hcm : grownCap w (k + m) cap e ≤ maxLen := grownCap_le_maxLen w (k + m) cap e h63
    have holds : ∀ j u, xs[j]? = some u → w.cell? ((⟨g, 0, none⟩ : Addr).add j) = some u := fun j u hu => by
      rw [Addr.add_mid, Nat.zero_add, hb.cell]; exact hrw.get j u hu
    refine ⟨_, _, ⟨hge, hcm, ?_, ?_⟩, run_append_grow (P := P) w t ty e i z ht hi hz ⟨g, 0, none⟩ k cap xs hrw.len holds ad m c news hl hnews (by omega) (by omega) (growslice_fits (by omega) hbytes)⟩
    · simp only [Array.size_append, List.size_toArray, size_zeroCells, hzs, hrw.len, hl, ← Nat.add_mul]
      congr 1
      omega
    · simp only [Array.toList_append, List.append_assoc]
      rw [← List.append_assoc, ← hlen]
      exact List.take_left
theorem run_app0 {t ty e : TypeId} {z : Value} {size bytes : Nat} (E : ElT P t e z size bytes)
    (ad : Addr) (m c : Nat) (news : List Value) (hm0 : 0 < m) (hl : news.length = m * size) (hnews : ∀ j u, news[j]? = some u → w.cell? (ad.add j) = some u)
    (h63 : m ≤ maxLen) (hbytes : m * bytes ≤ 140737488355328) :
    ∃ cap' cur', Rw cur' m cap' size news ∧ (Builtin.append_ #[t, t] ty #[.slice none 0 0, .slice (some ad) m c]).run P w = .ok (.slice (some ⟨w.heap.size, 0, none⟩) m cap') (w.drew.alloc (.cells cur' e)) := by
  obtain ⟨i, hi, hz, rfl, rfl⟩ := E.get
  have ht := E.und
  have hzs := E.zs
  have hsz := E.pos
  have hsmall : m ≤ 9223372036854775807 := by simp only [maxLen] at h63; omega
  have hge := grownCap_ge w m 0 e
  have hcm : grownCap w m 0 e ≤ maxLen := grownCap_le_maxLen w m 0 e h63
  refine ⟨_, _, ⟨hge, hcm, ?_, ?_⟩, run_append_nil (P := P) w t ty e i z ht hi hz ad m c news hl hnews (by omega) (by omega) (by omega)⟩
  · simp only [Array.size_append, List.size_toArray, size_zeroCells, hzs, hl]
    rw [← Nat.add_mul]
    congr 1
    omega
  · simp only [Array.toList_append]
    rw [← hl]
    exact List.take_left
theorem wl_append (he : EV a n d env) (hm : MM S w0 w L) (key : Nat) {g : Nat} {e : TypeId} {cur : Array Value} (hlk : L.lookup key = some ⟨true, g, e, cur⟩) (hd : op.dst.all (· < n) = true) (hw : Region.wanted op (yielded ops a.tmps) = true) (s x : Operand) (t : TypeId)
    (ho : op.op = .call { callee := .builtin .append, args := #[s, x], argTypes := #[t, t] }) {z : Value} {size bytes : Nat} (E : ElT P t e z size bytes) {k cap : Nat} (hs : a.eval s = .slice (some ⟨g, 0, none⟩) k cap) {xs : List Value} (hrw : Rw cur k cap size xs)
    (ad : Addr) (m c : Nat) (hx : a.eval x = .slice (some ad) m c) (news : List Value) (hl : news.length = m * size) (hnews : ∀ j u, news[j]? = some u → w.cell? (ad.add j) = some u) (h1 : ∀ u ∈ news, u.oneCell' = true)
    (h63 : k + m ≤ maxLen) (hbytes : (k + m) * bytes ≤ 140737488355328)
    (kk : ∀ a' w' g' cap' cur', EV a' n d (putE env op.dst (.slice (some ⟨g', 0, none⟩) (k + m) cap')) → MM S w0 w' ((key, ⟨true, g', e, cur'⟩) :: L) → Rw cur' (k + m) cap' size (xs ++ news) → wpList P ops Q rest a' w') : wpList P ops Q (op :: rest) a w := by
  unfold wpList
  rw [if_pos hw]
  refine .inl ?_
  have ex : ∀ v w', (Builtin.append_ #[t, t] op.type #[.slice (some ⟨g, 0, none⟩) k cap, .slice (some ad) m c]).run P w = .ok v w' → (execOp a.eval op).run P w = .ok (.value v) w' := fun v w' hr => by
    unfold execOp
    simp only [ho, resolve, invoke, builtin, Sem.run_bind, Sem.run_pure, Result.andThen_ok, List.map_toArray, List.map_cons, List.map_nil, hs, hx, hr]
  unfold Oper.wp
  rcases run_app (ty := op.type) E g cap k cur xs (hm.has key _ hlk) hrw ad m c news hl hnews h1 h63 hbytes with ⟨cur', hrw', hr⟩ | ⟨cap', cur', hrw', hr⟩
  · rw [ex _ _ hr]
    exact kk _ _ _ _ _ (he.putO _ _ hd) (hm.setRow key g e cur hlk cur') hrw'
  · rw [ex _ _ hr]
    refine kk _ _ _ _ _ (he.putO _ _ hd) ?_ hrw'
    have h0 := hm.drew
    have hs' : w.drew.heap.size = w.heap.size := rfl
    have old : ∀ k, k < w.heap.size → (w.drew.alloc (.cells cur' e)).heap[k]? = w.heap[k]? := fun k hk => Below.heap_alloc w.drew _ _ hk
    refine ⟨⟨h0.keep.os, h0.keep.tape, h0.keep.output, by simp; exact Nat.le_succ_of_le h0.keep.size, fun k hk hS => (old k (Nat.lt_of_lt_of_le hk h0.keep.size)).trans (h0.keep.block k hk hS)⟩, ?_, ?_, ?_⟩
    · intro k2 e2 hk2
      rw [lk] at hk2
      split at hk2
      · cases hk2; exact World.alloc_heap_new w.drew _
      · have := hm.has k2 e2 hk2; exact (old e2.b this.lt).trans this
    · intro k2 e2 hk2 ho2
      rw [lk] at hk2
      split at hk2
      · cases hk2; exact .inl hm.keep.size
      · exact hm.own k2 e2 hk2 ho2
    · intro j2 k2 e2 f2 hj2 hk2 hne ho2
      rw [lk] at hj2 hk2
      split at hj2 <;> split at hk2
      · rename_i q1 q2; exact absurd (q1.trans q2.symm) hne
      · cases hj2; have := (hm.has k2 f2 hk2).lt; simp; omega
      · cases hk2; have := (hm.has j2 e2 hj2).lt; simp; omega
      · exact hm.apart j2 k2 e2 f2 hj2 hk2 hne ho2
/-- A row that was there ahead of the call: its cells from p on. -/
def RowAt (w : World) (b p n sz : Nat) (f : Nat → Array Value) : Prop := b < w.heap.size ∧ ∀ i, i < n → ∀ j, j < sz → w.cell? ⟨b, p + i * sz + j, none⟩ = (f i)[j]? ∧ j < (f i).size
theorem RowAt.kb {w w' : World} {b p n sz : Nat} {f : Nat → Array Value} (h : RowAt w b p n sz f) {S : List Nat} (k : KB S w w') (hb : b ∉ S) : RowAt w' b p n sz f :=
  ⟨Nat.lt_of_lt_of_le h.1 k.size, fun i hi j hj => by rw [World.cell?_of_block (k.block b h.1 hb)]; exact h.2 i hi j hj⟩
theorem rn_row1 (hm : MM S w0 w L) {b p m sz : Nat} {f : Nat → Array Value} (hr : RowAt w0 b p m sz f) (hb : b ∉ S) (i : Nat) (hi : i < m) (j : Nat) (hj : j < sz) (T : TypeId) (x : Operand) (ho : op.op = .load T x)
    (hx : a.eval x = .pointer (some ⟨b, p + i * sz + j, none⟩)) (hT : OneT P T) (v : Value) (hv : (f i)[j]? = some v) : (execOp a.eval op).run P w = .ok (.value v) w := by
  have hc : w.cell? ⟨b, p + i * sz + j, none⟩ = some v := (((hr.kb hm.keep hb).2 i hi j hj).1).trans hv
  unfold execOp
  simp only [ho, hx, Instr.loadAt, Instr.sureAddr, loadVar, Sem.run_bind, Sem.run_pure, Result.andThen_ok, hT.agg, run_load, hc, Bool.false_eq_true, if_false]
theorem rn_rowA (hm : MM S w0 w L) {b p m sz : Nat} {f : Nat → Array Value} (hr : RowAt w0 b p m sz f) (hb : b ∉ S) (i : Nat) (hi : i < m) (T : TypeId) (x : Operand) (ho : op.op = .load T x)
    (hx : a.eval x = .pointer (some ⟨b, p + i * sz, none⟩)) (hT : AggT P T sz) (hz : (f i).size = sz) : (execOp a.eval op).run P w = .ok (.value (.agg (f i))) w := by
  have hr' := hr.kb hm.keep hb
  have hl : (loadCells ⟨b, p + i * sz, none⟩ sz).run P w = .ok (f i) w := by
    have := run_loadCells_list (P := P) w ⟨b, p + i * sz, none⟩ (f i).toList (fun j v hv => by
      rw [Addr.add_mid]
      have hj : j < sz := by
        have := (List.getElem?_eq_some_iff.1 hv).1
        simp at this; omega
      rw [(hr'.2 i hi j hj).1]; simpa using hv)
    simpa [hz] using this
  unfold execOp
  simp only [ho, hx, Instr.loadAt, Instr.sureAddr, loadVar, Sem.run_bind, Sem.run_pure, Result.andThen_ok, hT.agg, hT.size, hl, if_true]
end
theorem ixS {P : Program} {T : TypeId} (el : TypeId) (sz : Nat) (hT : P.underlying T = some (.slice el)) (hs : ∀ w, (sizeOf el).run P w = .ok sz w) (b p n c i : Nat) (hi : i < n) (w : World) :
    (Instr.indexAt T (.slice (some ⟨b, p, none⟩) n c) (.int .i64 (i : Nat))).run P w = .ok (.pointer (some ⟨b, p + i * sz, none⟩)) w := by
  have h1 : (0 : Int) ≤ (i : Int) ∧ (i : Int) < (n : Int) := ⟨by omega, by omega⟩
  simp [Instr.indexAt, asIntOf, underlying, hT, Sem.run_bind, h1, hs, Result.andThen]
  rw [if_pos (by omega)]
  simp [hs, Result.andThen, Addr.add_mid, Sem.run_bind]
theorem addN {i c : Nat} (h : i + c ≤ 9223372036854775807) : Value.int .i64 (IntKind.i64.wrap ((i : Int) + (c : Int))) = .int .i64 ((i + c : Nat) : Int) := by
  rw [show IntKind.i64.wrap ((i : Int) + (c : Int)) = ((i + c : Nat) : Int) by rw [IntKind.wrap_i64]; omega]
end Go.Proofs.Ytkaekiodjjhjkaa
namespace Go.Proofs.Ytkaekiodjjhjkaa
open Go.RowKit
set_option linter.unusedVariables false
set_option linter.unusedSimpArgs false
section
variable {P : Program} {op : Oper} {a : Act} {w : World}
theorem rn_sidx (T : TypeId) (hT : P.underlying T = some .string) (x y : Operand) (ho : op.op = .index T x y) (s : ByteArray) (i : Nat) (hx : a.eval x = .string s) (hy : a.eval y = .int .i64 ((i : Nat) : Int)) (hi : i < s.size) :
    (execOp a.eval op).run P w = .ok (.value (.int .u8 (s[i].toNat : Nat))) w := by
  unfold execOp
  have : (Instr.index T (.string s) (.int .i64 ((i : Nat) : Int))).run P w = .ok (.int .u8 (s[i].toNat : Nat)) w := by
    simp [Instr.index, asIntOf, underlying, hT, Sem.run_bind, Result.andThen, getElem?_pos, hi]
  simp only [ho, hx, hy, Sem.run_bind, this]; rfl
/-- The byte at a place; 0, if there is none. -/
def byteAt (s : ByteArray) (i : Nat) : Nat := if h : i < s.size then s[i].toNat else 0
theorem byteAt_lt (s : ByteArray) (i : Nat) : byteAt s i < 256 := by
  unfold byteAt
  split
  · exact UInt8.toNat_lt _
  · omega
theorem rn_sbyte (T : TypeId) (hT : P.underlying T = some .string) (x y : Operand) (ho : op.op = .index T x y) (s : ByteArray) (i : Nat) (hx : a.eval x = .string s) (hy : a.eval y = .int .i64 ((i : Nat) : Int)) (hi : i < s.size) :
    (execOp a.eval op).run P w = .ok (.value (.int .u8 ((byteAt s i : Nat) : Int))) w := by
  have := rn_sidx (w := w) T hT x y ho s i hx hy hi
  rw [show byteAt s i = s[i].toNat by simp [byteAt, hi]]
  exact this
end
theorem subN {i c : Nat} (k : IntKind) (h : c ≤ i) (hk : k.wrap ((i - c : Nat) : Int) = ((i - c : Nat) : Int)) : Value.int k (k.wrap ((i : Int) - (c : Int))) = .int k ((i - c : Nat) : Int) := by
  rw [show (i : Int) - (c : Int) = ((i - c : Nat) : Int) by omega, hk]
theorem cvn {n : Nat} (h : n ≤ 9223372036854775807) : Value.int .i64 (IntKind.i64.wrap (n : Int)) = .int .i64 (n : Int) := by
  rw [show IntKind.i64.wrap (n : Int) = (n : Int) by rw [IntKind.wrap_i64]; omega]
end Go.Proofs.Ytkaekiodjjhjkaa
namespace Go.Proofs.Ytkaekiodjjhjkaa
open Go.RowKit
set_option linter.unusedVariables false
set_option linter.unusedSimpArgs false
theorem MM.new {S : List Nat} {w0 w w' : World} {L : List (Nat × Ent)} (h : MM S w0 w L) (key : Nat) (b : Nat) (T : TypeId) (A : Array Value) (hk : L.lookup key = none) (hb : Below w.heap.size w w') (hx : BX w' b T A) (hs : w.heap.size ≤ b) : MM S w0 w' ((key, ⟨true, b, T, A⟩) :: L) := by
  have h' := h.kb (KB.of_below hb)
  refine ⟨h'.keep, ?_, ?_, ?_⟩
  · intro k e hl
    rw [lk] at hl
    split at hl
    · cases hl; exact hx
    · exact h'.has k e hl
  · intro k e hl ho
    rw [lk] at hl
    split at hl
    · cases hl; exact .inl (Nat.le_trans h.keep.size hs)
    · exact h.own k e hl ho
  · intro j k e f hj hk' hne ho
    rw [lk] at hj hk'
    split at hj <;> split at hk'
    · rename_i h1 h2; exact absurd (h1.trans h2.symm) hne
    · cases hj; have := (h.has k f hk').lt; show b ≠ f.b; omega
    · cases hk'; have := (h.has j e hj).lt; show e.b ≠ b; omega
    · exact h.apart j k e f hj hk' hne ho
theorem Rw.nil (sz : Nat) : Rw (#[] : Array Value) 0 0 sz [] := ⟨Nat.le_refl _, Nat.zero_le _, by simp, by simp⟩
/-- The answer is a new row. -/
def NewRow {α : Type} (w : World) (v : α → Nat → Value) (T : TypeId) (A : α → Array Value) (Φ : α → Prop) (e : Ending) (w' : World) : Prop :=
  ∃ (x : α) (b : Nat), e = .returned (v x b) ∧ BX w' b T (A x) ∧ Φ x ∧ w.heap.size ≤ b ∧ Below w.heap.size w w'
section
variable {P : Program} {ops : Array Oper} {Q : Exit → Act → World → Prop} {rest : List Oper} {op : Oper} {a : Act} {w w0 : World} {S : List Nat} {L Ls : List (Nat × Ent)}
  {n : Nat} {d : List Deferred} {env : List (Nat × Value)} {fuel : Nat} {listed : Array Bool} {α : Type}
theorem wl_callN (he : EV a n d env) (hm : MM S w0 w L) (key : Nat) (hk : L.lookup key = none) (hd : op.dst.all (· < n) = true) (hw : Region.wanted op (yielded ops a.tmps) = true) (f : FuncId) (args : Array Value) (hr : (execOp a.eval op).run P w = .ok (.enter f args) w)
    {v : α → Nat → Value} {T : TypeId} {A : α → Array Value} {Φ : α → Prop} (hc : Calls P f args w fun e w' => NewRow w v T A Φ e w')
    (k : ∀ x b a' w', Φ x → EV a' n d (putE env op.dst (v x b)) → MM S w0 w' ((key, ⟨true, b, T, A x⟩) :: L) → wpList P ops Q rest a' w') : wpList P ops Q (op :: rest) a w := by
  unfold wpList
  rw [if_pos hw]
  refine .inl ?_
  unfold Oper.wp
  rw [hr]
  refine hc.mono ?_
  rintro e w' ⟨x, b, rfl, hx, hΦ, hs, hb⟩
  exact k x b _ _ hΦ (he.putO _ _ hd) (hm.new key b T (A x) hk hb hx hs)
end
end Go.Proofs.Ytkaekiodjjhjkaa
namespace Go.Proofs.Ytkaekiodjjhjkaa
open Go.RowKit
set_option linter.unusedVariables false
set_option linter.unusedSimpArgs false
theorem pmap4 {f : Operand → Value} {i j k l : Nat} {x y z q : Operand} {u v t r : Value} (h : f x = u) (h2 : f y = v) (h3 : f z = t) (h4 : f q = r) : #[(i, x), (j, y), (k, z), (l, q)].map (fun (p : Nat × Operand) => (p.1, f p.2)) = #[(i, u), (j, v), (k, t), (l, r)] := by simp [h, h2, h3, h4]
theorem one9 : OneT Try.prog 9 := ⟨fun w => by kernel_rfl, fun w => by kernel_rfl⟩
/-- The cells of a list of structs. -/
def cellsOf {α : Type} (arr : α → Array Value) (l : List α) : List Value := l.flatMap fun x => (arr x).toList
section
variable {α : Type} {arr : α → Array Value} {sz : Nat}
theorem cellsOf_cons (x : α) (l : List α) : cellsOf arr (x :: l) = (arr x).toList ++ cellsOf arr l := rfl
theorem cellsOf_len (h : ∀ x, (arr x).size = sz) : ∀ (l : List α), (cellsOf arr l).length = l.length * sz
  | [] => by simp [cellsOf]
  | x :: l => by
    rw [cellsOf_cons, List.length_append, cellsOf_len h l, Array.length_toList, h x, List.length_cons, Nat.succ_mul]; omega
theorem cellsOf_app (a b : List α) : cellsOf arr (a ++ b) = cellsOf arr a ++ cellsOf arr b := by
  unfold cellsOf; rw [List.flatMap_append]
theorem cellsOf_one (h : ∀ x, (arr x).all (·.oneCell') = true) (l : List α) : ∀ u ∈ cellsOf arr l, u.oneCell' = true := by
  intro u hu
  unfold cellsOf at hu
  obtain ⟨x, _, hx⟩ := List.mem_flatMap.1 hu
  exact (Array.all_eq_true_iff_forall_mem.1 (h x)) u (by simpa using hx)
theorem cellsOf_get (h : ∀ x, (arr x).size = sz) : ∀ (l : List α) (i j : Nat) (x : α), l[i]? = some x → j < sz → (cellsOf arr l)[i * sz + j]? = (arr x)[j]?
  | [], i, j, x, hx, _ => by simp at hx
  | y :: l, 0, j, x, hx, hj => by
    obtain rfl : y = x := by simpa using hx
    rw [cellsOf_cons, Nat.zero_mul, Nat.zero_add, List.getElem?_append_left (by rw [Array.length_toList, h]; exact hj), Array.getElem?_toList]
  | y :: l, i + 1, j, x, hx, hj => by
    rw [cellsOf_cons, List.getElem?_append_right (by rw [Array.length_toList, h, Nat.succ_mul]; omega), Array.length_toList, h, show (i + 1) * sz + j - sz = i * sz + j by rw [Nat.succ_mul]; omega]
    exact cellsOf_get h l i j x (by simpa using hx) hj
theorem Rw.lits (h : ∀ x, (arr x).size = sz) (l : List α) (hl : l.length ≤ maxLen) : Rw (cellsOf arr l).toArray l.length l.length sz (cellsOf arr l) :=
  ⟨Nat.le_refl _, hl, by rw [List.size_toArray, cellsOf_len h], by rw [← cellsOf_len h l]; simp⟩
end
theorem Rw.fit' {cur : Array Value} {n cap sz : Nat} {xs : List Value} (h : Rw cur n cap sz xs) : n * sz ≤ cur.size := by
  rw [h.room]; exact Nat.mul_le_mul_right _ h.le
theorem Rw.app {α : Type} {arr : α → Array Value} {sz n cap : Nat} {cur : Array Value} {a b : List α} (h : Rw cur n cap sz (cellsOf arr a ++ cellsOf arr b)) : Rw cur n cap sz (cellsOf arr (a ++ b)) := by rw [cellsOf_app]; exact h
theorem Rw.cast {cur : Array Value} {n m cap sz : Nat} {x y : List Value} (h : Rw cur n cap sz x) (e : n = m) (e2 : x = y) : Rw cur m cap sz y := by subst e; subst e2; exact h
section
variable {P : Program} {ops : Array Oper} {Q : Exit → Act → World → Prop} {rest : List Oper} {op : Oper} {a : Act} {w w0 : World} {S : List Nat} {L : List (Nat × Ent)}
  {n : Nat} {d : List Deferred} {env : List (Nat × Value)}
end
section
variable {P : Program} {ops : Array Oper} {Q : Exit → Act → World → Prop} {op : Oper} {a : Act} {w w0 : World} {S : List Nat} {L Ls : List (Nat × Ent)} {n : Nat} {d : List Deferred} {env : List (Nat × Value)} {fuel : Nat} {listed : Array Bool} {α : Type}
end
end Go.Proofs.Ytkaekiodjjhjkaa
