/- Steps of a walk in which the state of the call and its memory are names of which lists say what they hold. -/
import Derived.Test.YtkaekiodjjhjkaaDoorRows
import Derived.WalkKit
import Derived.Deep.MidRow
import Derived.Defers
import Derived.RangeFuncRecord
namespace Go.Proofs.YtkaekiodjjhjkaaDoor
open Go.RowKit
set_option linter.unusedVariables false
set_option linter.unusedSimpArgs false

/-- A block and what it holds; 'own': it may be written. -/
structure Ent where
  own : Bool
  b : Nat
  T : TypeId
  A : Array Value
/-- Block b holds the cells A of type T. -/
def BX (w : World) (b : Nat) (T : TypeId) (A : Array Value) : Prop := w.heap[b]? = some (.cells A T (0, 0))
/-- All that was there is as it was, but for the blocks of S. -/
structure KB (S : List Nat) (w w' : World) : Prop where
  os : w'.os = w.os
  tape : w'.tape = w.tape
  output : w'.output = w.output
  size : w.heap.size ≤ w'.heap.size
  block : ∀ k, k < w.heap.size → k ∉ S → w'.heap[k]? = w.heap[k]?
theorem KB.refl (S : List Nat) (w : World) : KB S w w := ⟨rfl, rfl, rfl, Nat.le_refl _, fun _ _ _ => rfl⟩
theorem KB.below {w w' : World} (h : KB [] w w') : Below w.heap.size w w' := ⟨h.os, h.tape, h.output, h.size, fun k hk => h.block k hk (by simp)⟩
theorem KB.of_below {w w' : World} (h : Below w.heap.size w w') : KB [] w w' := ⟨h.os, h.tape, h.output, h.size, fun k hk _ => h.block k hk⟩
theorem KB.of_same {w w' : World} (h : w' = w) : KB [] w w' := by subst h; exact KB.refl _ _
theorem BX.lt {w : World} {b : Nat} {T : TypeId} {A : Array Value} (h : BX w b T A) : b < w.heap.size := (Array.getElem?_eq_some_iff.1 h).1
theorem BX.cell {w : World} {b : Nat} {T : TypeId} {A : Array Value} (h : BX w b T A) (j : Nat) : w.cell? ⟨b, j, none⟩ = A[j]? := by
  simp [World.cell?, show w.heap[b]? = _ from h]
theorem BX.frozen {w : World} {b : Nat} {T : TypeId} {A : Array Value} (h : BX w b T A) (j : Nat) : w.frozen? ⟨b, j, none⟩ = false := by
  simp [World.frozen?, show w.heap[b]? = _ from h]
theorem BX.kb {S : List Nat} {w w' : World} {b : Nat} {T : TypeId} {A : Array Value} (h : BX w b T A) (k : KB S w w') (hb : b ∉ S) : BX w' b T A :=
  (k.block b h.lt hb).trans h

/-- The memory of a call that began in w0: what has not been written, and blocks by their keys. -/
structure MM (S : List Nat) (w0 w : World) (L : List (Nat × Ent)) : Prop where
  keep : KB S w0 w
  has : ∀ k e, L.lookup k = some e → BX w e.b e.T e.A
  own : ∀ k e, L.lookup k = some e → e.own = true → w0.heap.size ≤ e.b ∨ e.b ∈ S
  apart : ∀ j k e f, L.lookup j = some e → L.lookup k = some f → j ≠ k → e.own = true → e.b ≠ f.b
theorem MM.nil (w : World) : MM [] w w [] := ⟨KB.refl _ _, fun _ _ h => by simp at h, fun _ _ h => by simp at h, fun _ _ _ _ h => by simp at h⟩
theorem MM.start1 {w : World} {b : Nat} {T : TypeId} {A : Array Value} (key : Nat) (h : BX w b T A) : MM [b] w w [(key, ⟨true, b, T, A⟩)] := by
  have one : ∀ k e, List.lookup k [(key, (⟨true, b, T, A⟩ : Ent))] = some e → k = key ∧ e = ⟨true, b, T, A⟩ := by
    intro k e hk
    rw [List.lookup_cons] at hk
    by_cases hh : k = key
    · subst hh; simp at hk; exact ⟨rfl, hk.symm⟩
    · rw [show (k == key) = false by simpa using hh] at hk; simp at hk
  refine ⟨KB.refl _ _, ?_, ?_, ?_⟩
  · intro k e hk; obtain ⟨_, rfl⟩ := one k e hk; exact h
  · intro k e hk _; obtain ⟨_, rfl⟩ := one k e hk; exact .inr (by simp)
  · intro j k e f hj hk hne; exact absurd ((one j e hj).1.trans (one k f hk).1.symm) hne
theorem MM.below {w0 w : World} {L : List (Nat × Ent)} (h : MM [] w0 w L) : Below w0.heap.size w0 w := h.keep.below

/-- The values of the call's slots. -/
structure EV (a : Act) (n : Nat) (d : List Deferred) (env : List (Nat × Value)) : Prop where
  size : a.tmps.size = n
  defers : a.defers = d
  has : ∀ t v, env.lookup t = some v → a.tmps[t]? = some v
theorem EV.tmp {a : Act} {n : Nat} {d : List Deferred} {env : List (Nat × Value)} (h : EV a n d env) (t : Nat) (v : Value) (hl : env.lookup t = some v) : a.eval (.tmp t) = v := by
  have := h.has t v hl
  simp [Act.eval, Array.getD_eq_getD_getElem?, this]
theorem EV.at {a : Act} {n : Nat} {d : List Deferred} {env : List (Nat × Value)} (h : EV a n d env) (t : Nat) (v : Value) (hl : env.lookup t = some v) : a.tmps.getD t undef = v := by
  have := h.has t v hl
  simp [Array.getD_eq_getD_getElem?, this]
theorem EV.put {a : Act} {n : Nat} {d : List Deferred} {env : List (Nat × Value)} (h : EV a n d env) (t : Nat) (v : Value) (ht : t < n) : EV (a.put (some t) v) n d ((t, v) :: env) := by
  refine ⟨by simp [Act.put, h.size], h.defers, fun s u hs => ?_⟩
  simp only [Act.put]
  rw [Array.getElem?_setIfInBounds]
  by_cases e : s = t
  · subst e
    simp at hs
    simp [h.size, ht, hs]
  · rw [if_neg (fun h => e h.symm)]
    refine h.has s u ?_
    rw [List.lookup_cons, show (s == t) = false by simpa using e] at hs
    exact hs
/-- dst is a slot, or there is none. -/
def putE (env : List (Nat × Value)) (dst : Option Tmp) (v : Value) : List (Nat × Value) := match dst with
  | some t => (t, v) :: env
  | none => env
theorem EV.putO {a : Act} {n : Nat} {d : List Deferred} {env : List (Nat × Value)} (h : EV a n d env) (dst : Option Tmp) (v : Value) (ht : dst.all (· < n) = true) : EV (a.put dst v) n d (putE env dst v) := by
  cases dst with
  | none => exact h
  | some t => exact h.put t v (by simpa using ht)
theorem EV.begin (l : Array Value) (d : List Deferred) (n : Nat) (hn : l.size = n) (env : List (Nat × Value)) (h : ∀ p ∈ env, l[p.1]? = some p.2) : EV { tmps := l, defers := d } n d env := by
  refine ⟨hn, rfl, fun t v hl => ?_⟩
  induction env with
  | nil => simp at hl
  | cons p r ih =>
    obtain ⟨s, u⟩ := p
    rw [List.lookup_cons] at hl
    by_cases e : t = s
    · subst e
      simp at hl
      subst hl
      exact h (t, u) (by simp)
    · rw [show (t == s) = false by simpa using e] at hl
      exact ih (fun p hp => h p (by simp [hp])) hl

theorem lk (k k' : Nat) (e : Ent) (L : List (Nat × Ent)) : ((k', e) :: L).lookup k = if k = k' then some e else L.lookup k := by
  rw [List.lookup_cons]
  by_cases h : k = k'
  · simp [h]
  · rw [show (k == k') = false by simpa using h, if_neg h]
section mem
variable {S : List Nat} {w0 w : World} {L : List (Nat × Ent)}
theorem MM.alloc (h : MM S w0 w L) (key : Nat) (T : TypeId) (A : Array Value) (hk : L.lookup key = none) : MM S w0 (w.alloc (.cells A T)) ((key, ⟨true, w.heap.size, T, A⟩) :: L) := by
  have hs := h.keep.size
  have old : ∀ k, k < w.heap.size → (w.alloc (.cells A T)).heap[k]? = w.heap[k]? := fun k hk => Below.heap_alloc _ _ _ hk
  refine ⟨⟨h.keep.os, h.keep.tape, h.keep.output, by simp; omega, fun k hk hS => (old k (by omega)).trans (h.keep.block k hk hS)⟩, ?_, ?_, ?_⟩
  · intro k e hl
    rw [lk] at hl
    split at hl
    · cases hl; exact World.alloc_heap_new w _
    · have := h.has k e hl; exact (old e.b this.lt).trans this
  · intro k e hl ho
    rw [lk] at hl
    split at hl
    · cases hl; exact .inl hs
    · exact h.own k e hl ho
  · intro j k e f hj hk' hne ho
    rw [lk] at hj hk'
    split at hj <;> split at hk'
    · rename_i h1 h2; exact absurd (h1.trans h2.symm) hne
    · cases hj; have := (h.has k f hk').lt; simp; omega
    · cases hk'; have := (h.has j e hj).lt; simp; omega
    · exact h.apart j k e f hj hk' hne ho
theorem BX.set {b : Nat} {T : TypeId} {A : Array Value} (h : BX w b T A) (o : Nat) (v : Value) : BX (w.setCell ⟨b, o, none⟩ v) b T (A.setIfInBounds o v) := by
  unfold BX at *
  simp only [World.setCell, Array.getElem?_modify, if_pos rfl, h]
  rfl
/-- A written over from o on. -/
def ovw (A : Array Value) (o : Nat) : List Value → Array Value
  | [] => A
  | v :: r => ovw (A.setIfInBounds o v) (o + 1) r
theorem BX.sets {b : Nat} {T : TypeId} : ∀ (cs : List Value) {w : World} {A : Array Value} (h : BX w b T A) (o : Nat), BX (w.setCells b o cs) b T (ovw A o cs)
  | [], _, _, h, _ => h
  | v :: r, _, _, h, o => BX.sets r (h.set o v) (o + 1)
theorem setCells_other {b : Nat} : ∀ (cs : List Value) (w : World) (o k : Nat), k ≠ b → (w.setCells b o cs).heap[k]? = w.heap[k]?
  | [], _, _, _, _ => rfl
  | v :: r, w, o, k, hne => (setCells_other r _ (o + 1) k hne).trans (Below.heap_setCell _ _ _ _ hne)
theorem setCells_size {b : Nat} : ∀ (cs : List Value) (w : World) (o : Nat), (w.setCells b o cs).heap.size = w.heap.size
  | [], _, _ => rfl
  | v :: r, w, o => (setCells_size r _ (o + 1)).trans (by simp [World.setCell])
theorem setCells_rest {b : Nat} : ∀ (cs : List Value) (w : World) (o : Nat), (w.setCells b o cs).os = w.os ∧ (w.setCells b o cs).tape = w.tape ∧ (w.setCells b o cs).output = w.output
  | [], _, _ => ⟨rfl, rfl, rfl⟩
  | v :: r, w, o => setCells_rest r _ (o + 1)
theorem MM.sets (h : MM S w0 w L) (key : Nat) (b : Nat) (T : TypeId) (A : Array Value) (hl : L.lookup key = some ⟨true, b, T, A⟩) (o : Nat) (cs : List Value) :
    MM S w0 (w.setCells b o cs) ((key, ⟨true, b, T, ovw A o cs⟩) :: L) := by
  have hb := h.has key _ hl
  have hown := h.own key _ hl rfl
  obtain ⟨r1, r2, r3⟩ := setCells_rest (b := b) cs w o
  have hz := setCells_size (b := b) cs w o
  refine ⟨⟨r1.trans h.keep.os, r2.trans h.keep.tape, r3.trans h.keep.output, by rw [hz]; exact h.keep.size, fun k hk hS => ?_⟩, ?_, ?_, ?_⟩
  · rw [setCells_other cs w o k ?_]
    · exact h.keep.block k hk hS
    · rintro rfl
      simp at hown
      rcases hown with h' | h'
      · omega
      · exact hS h'
  · intro k e hk
    rw [lk] at hk
    split at hk
    · cases hk; exact BX.sets cs hb o
    · rename_i hne
      have := h.has k e hk
      exact (setCells_other cs w o e.b (fun he => h.apart key k _ e hl hk (Ne.symm hne) rfl he.symm)).trans this
  · intro k e hk ho
    rw [lk] at hk
    split at hk
    · cases hk; exact hown
    · exact h.own k e hk ho
  · intro j k e f hj hk hne ho
    rw [lk] at hj hk
    split at hj <;> split at hk
    · rename_i h1 h2; exact absurd (h1.trans h2.symm) hne
    · rename_i h1 h2; cases hj; exact h.apart key k ⟨true, b, T, A⟩ f hl hk (fun e => h2 e.symm) rfl
    · rename_i h1 h2; cases hk; exact h.apart j key e ⟨true, b, T, A⟩ hj hl h1 ho
    · exact h.apart j k e f hj hk hne ho
/-- A call that keeps all but blocks of R, of which it is said what they hold now. -/
theorem MM.kb {w' : World} (h : MM S w0 w L) (k : KB [] w w') : MM S w0 w' L :=
  ⟨⟨k.os.trans h.keep.os, k.tape.trans h.keep.tape, k.output.trans h.keep.output, Nat.le_trans h.keep.size k.size, fun i hi hS => (k.block i (Nat.lt_of_lt_of_le hi h.keep.size) (by simp)).trans (h.keep.block i hi hS)⟩,
    fun j e hj => (h.has j e hj).kb k (by simp), h.own, h.apart⟩
theorem MM.kb1 {w' : World} (h : MM S w0 w L) (key : Nat) (b : Nat) (T : TypeId) (A A' : Array Value) (hl : L.lookup key = some ⟨true, b, T, A⟩) (k : KB [b] w w') (hx : BX w' b T A') :
    MM S w0 w' ((key, ⟨true, b, T, A'⟩) :: L) := by
  have hown := h.own key _ hl rfl
  refine ⟨⟨k.os.trans h.keep.os, k.tape.trans h.keep.tape, k.output.trans h.keep.output, Nat.le_trans h.keep.size k.size, fun i hi hS => ?_⟩, ?_, ?_, ?_⟩
  · refine (k.block i (Nat.lt_of_lt_of_le hi h.keep.size) ?_).trans (h.keep.block i hi hS)
    simp
    rintro rfl
    simp at hown
    rcases hown with h' | h'
    · omega
    · exact hS h'
  · intro j e hk
    rw [lk] at hk
    split at hk
    · cases hk; exact hx
    · rename_i hne
      exact (h.has j e hk).kb k (by simp; exact fun he => h.apart key j _ e hl hk (Ne.symm hne) rfl he.symm)
  · intro j e hk ho
    rw [lk] at hk
    split at hk
    · cases hk; exact hown
    · exact h.own j e hk ho
  · intro j i e f hj hk hne ho
    rw [lk] at hj hk
    split at hj <;> split at hk
    · rename_i h1 h2; exact absurd (h1.trans h2.symm) hne
    · rename_i h1 h2; cases hj; exact h.apart key i ⟨true, b, T, A⟩ f hl hk (fun e => h2 e.symm) rfl
    · rename_i h1 h2; cases hk; exact h.apart j key e ⟨true, b, T, A⟩ hj hl h1 ho
    · exact h.apart j i e f hj hk hne ho
/-- A block that was there ahead of the call, to be read. -/
theorem MM.old (h : MM S w0 w L) (key : Nat) (b : Nat) (T : TypeId) (A : Array Value) (hk : L.lookup key = none) (hx : BX w0 b T A) (hb : b ∉ S) : MM S w0 w ((key, ⟨false, b, T, A⟩) :: L) := by
  have hx' : BX w b T A := hx.kb h.keep hb
  refine ⟨h.keep, ?_, ?_, ?_⟩
  · intro j e hj
    rw [lk] at hj
    split at hj
    · cases hj; exact hx'
    · exact h.has j e hj
  · intro j e hj ho
    rw [lk] at hj
    split at hj
    · cases hj; simp at ho
    · exact h.own j e hj ho
  · intro j k e f hj hk' hne ho
    rw [lk] at hj hk'
    split at hj <;> split at hk'
    · rename_i h1 h2; exact absurd (h1.trans h2.symm) hne
    · cases hj; simp at ho
    · cases hk'
      have h1 := hx.lt
      have := h.own j e hj ho
      rintro rfl
      rcases this with h' | h'
      · omega
      · exact hb h'
    · exact h.apart j k e f hj hk' hne ho
theorem MM.bx (h : MM S w0 w L) (key : Nat) (o : Bool) (b : Nat) (T : TypeId) (A : Array Value) (hl : L.lookup key = some ⟨o, b, T, A⟩) : BX w b T A := h.has key _ hl
end mem

/-- A type of several cells, and how many; of one. -/
structure AggT (P : Program) (T : TypeId) (n : Nat) : Prop where
  agg : ∀ w, (isAgg T).run P w = .ok true w
  size : ∀ w, (sizeOf T).run P w = .ok n w
structure OneT (P : Program) (T : TypeId) : Prop where
  agg : ∀ w, (isAgg T).run P w = .ok false w
  size : ∀ w, (sizeOf T).run P w = .ok 1 w

section steps
variable {P : Program} {ops : Array Oper} {Q : Exit → Act → World → Prop} {rest : List Oper} {op : Oper} {a : Act} {w w0 : World} {S : List Nat} {L : List (Nat × Ent)}
  {n : Nat} {d : List Deferred} {env : List (Nat × Value)}

theorem wl_val (he : EV a n d env) (hd : op.dst.all (· < n) = true) (hw : Region.wanted op (yielded ops a.tmps) = true) (v : Value) (hr : (execOp a.eval op).run P w = .ok (.value v) w)
    (k : ∀ a', EV a' n d (putE env op.dst v) → wpList P ops Q rest a' w) : wpList P ops Q (op :: rest) a w := by
  unfold wpList
  rw [if_pos hw]
  refine .inl ?_
  unfold Oper.wp
  rw [hr]
  exact k _ (he.putO _ _ hd)
theorem wl_not (he : EV a n d env) (hd : op.dst.all (· < n) = true) (hw : Region.wanted op (yielded ops a.tmps) = false)
    (k : ∀ a', EV a' n d (putE env op.dst undef) → wpList P ops Q rest a' w) : wpList P ops Q (op :: rest) a w := by
  unfold wpList
  rw [hw]
  exact k _ (he.putO _ _ hd)
/-- A guard that is told by a slot. -/
theorem wanted_slot (he : EV a n d env) (j : Nat) (q : Bool) (hg : op.guard = some (j, q)) (t : Nat) (hj : (ops[j]?).bind (·.dst) = some t) (x : Bool) (hl : env.lookup t = some (.bool x)) (y : Bool) (hy : (x == q) = y) :
    Region.wanted op (yielded ops a.tmps) = y := by
  have := he.has t _ hl
  simp only [Region.wanted, hg, yielded, hj, Option.bind_some, this]
  rw [← hy]
  cases x <;> cases q <;> rfl

theorem wanted_undef (he : EV a n d env) (j : Nat) (q : Bool) (hg : op.guard = some (j, q)) (t : Nat) (hj : (ops[j]?).bind (·.dst) = some t) (hl : env.lookup t = some undef) :
    Region.wanted op (yielded ops a.tmps) = false := by
  have := he.has t _ hl
  simp only [Region.wanted, hg, yielded, hj, Option.bind_some, this]
  rfl
theorem rn_move (x : Operand) (ho : op.op = .move x ∨ op.op = .assign x) (v : Value) (hx : a.eval x = v) : (execOp a.eval op).run P w = .ok (.value (v)) w := by
  rcases ho with ho | ho <;> (unfold execOp; simp only [ho, hx]; rfl)
theorem rn_pick (c x y : Operand) (ho : op.op = .pick c x y) (q : Bool) (hc : a.eval c = .bool q) (v : Value) (hx : (if q then a.eval x else a.eval y) = v) : (execOp a.eval op).run P w = .ok (.value (v)) w := by
  unfold execOp; simp only [ho, hc, ← hx]; cases q <;> rfl
theorem rn_pickT (c x y : Operand) (ho : op.op = .pick c x y) (hc : a.eval c = .bool true) (v : Value) (hx : a.eval x = v) : (execOp a.eval op).run P w = .ok (.value (v)) w := rn_pick c x y ho true hc v hx
theorem rn_pickF (c x y : Operand) (ho : op.op = .pick c x y) (hc : a.eval c = .bool false) (v : Value) (hx : a.eval y = v) : (execOp a.eval op).run P w = .ok (.value (v)) w := rn_pick c x y ho false hc v hx
theorem rn_field (T : TypeId) (x : Operand) (f : Nat) (ho : op.op = .fieldAddr T x f) (v u : Value) (hx : a.eval x = v)
    (hr : (Instr.fieldAt T v f).run P w = .ok u w) : (execOp a.eval op).run P w = .ok (.value (u)) w := by
  unfold execOp; simp only [ho, hx, Sem.run_bind, hr]; rfl
theorem rn_indexA (T : TypeId) (x y : Operand) (ho : op.op = .indexAddr T x y) (v i u : Value) (hx : a.eval x = v) (hy : a.eval y = i)
    (hr : (Instr.indexAt T v i).run P w = .ok u w) : (execOp a.eval op).run P w = .ok (.value (u)) w := by
  unfold execOp; simp only [ho, hx, hy, Sem.run_bind, hr]; rfl
theorem rn_index (T : TypeId) (x y : Operand) (ho : op.op = .index T x y) (v i u : Value) (hx : a.eval x = v) (hy : a.eval y = i)
    (hr : (Instr.index T v i).run P w = .ok u w) : (execOp a.eval op).run P w = .ok (.value (u)) w := by
  unfold execOp; simp only [ho, hx, hy, Sem.run_bind, hr]; rfl
theorem rn_fieldV (T : TypeId) (x : Operand) (f : Nat) (ho : op.op = .field T x f) (v u : Value) (hx : a.eval x = v)
    (hr : (Instr.field T v f).run P w = .ok u w) : (execOp a.eval op).run P w = .ok (.value (u)) w := by
  unfold execOp; simp only [ho, hx, Sem.run_bind, hr]; rfl
theorem rn_bin (b : BinOp) (T U : TypeId) (x y : Operand) (ho : op.op = .binOp b T x y U) (k1 : IntKind) (p q : Int) (hx : a.eval x = .int k1 p) (hy : a.eval y = .int k1 q) (u v : Value)
    (hr : (binOp b T (.int k1 p) (.int k1 q)).run P w = .ok u w) (hv : u = v) : (execOp a.eval op).run P w = .ok (.value (v)) w := by
  subst hv
  unfold execOp
  have : (eqGuard b T x y (.int k1 p) (.int k1 q)).run P w = .ok () w := by unfold eqGuard; split <;> rfl
  simp only [ho, hx, hy, Sem.run_bind, this, hr, Result.andThen_ok]; rfl
theorem rn_binG (b : BinOp) (T U : TypeId) (x y : Operand) (ho : op.op = .binOp b T x y U) (p q : Value) (hx : a.eval x = p) (hy : a.eval y = q) (v : Value)
    (hg : (eqGuard b T x y p q).run P w = .ok () w) (hr : (binOp b T p q).run P w = .ok v w) : (execOp a.eval op).run P w = .ok (.value (v)) w := by
  unfold execOp
  simp only [ho, hx, hy, Sem.run_bind, hg, hr, Result.andThen_ok]; rfl
theorem rn_un (b : UnOp) (T : TypeId) (x : Operand) (ho : op.op = .unOp b T x) (p u v : Value) (hx : a.eval x = p)
    (hr : (Op.unary b p).run P w = .ok u w) (hv : u = v) : (execOp a.eval op).run P w = .ok (.value (v)) w := by
  subst hv
  unfold execOp; simp only [ho, hx, Sem.run_bind, hr]; rfl
theorem rn_conv (s t : TypeId) (x : Operand) (ho : op.op = .convert s t x) (p u v : Value) (hx : a.eval x = p)
    (hr : (convert s t p).run P w = .ok u w) (hv : u = v) : (execOp a.eval op).run P w = .ok (.value (v)) w := by
  subst hv
  unfold execOp; simp only [ho, hx, Sem.run_bind, hr]; rfl
theorem rn_iface (T : TypeId) (x : Operand) (ho : op.op = .makeInterface T x) (p u : Value) (hx : a.eval x = p)
    (hr : (Instr.makeInterface T p).run P w = .ok u w) : (execOp a.eval op).run P w = .ok (.value (u)) w := by
  unfold execOp; simp only [ho, hx, Sem.run_bind, hr]; rfl
theorem rn_extract (x : Operand) (i : Nat) (ho : op.op = .extract x i) (vs : Array Value) (hx : a.eval x = .tuple vs) (u : Value)
    (hr : vs[i]? = some u) : (execOp a.eval op).run P w = .ok (.value (u)) w := by
  unfold execOp; simp only [ho, hx, Instr.extract, hr]; rfl
theorem rn_func (f : Fn) (x y : Array Operand) (ho : op.op = .makeFunc f x y) (vs us : Array Value) (hx : x.map a.eval = vs) (hy : y.map a.eval = us) : (execOp a.eval op).run P w = .ok (.value ((.func f vs us))) w := by
  unfold execOp; simp only [ho, hx, hy]; rfl
theorem rn_nilCheck (x : Operand) (ho : op.op = .nilCheck x) (p : Addr) (hx : a.eval x = .pointer (some p)) : (execOp a.eval op).run P w = .ok (.value ((.pointer (some p)))) w := by
  unfold execOp; simp only [ho, hx]; rfl

theorem rn_load1 (hm : MM S w0 w L) (key : Nat) {o : Bool} {b : Nat} {T0 : TypeId} {A : Array Value} (hl : L.lookup key = some ⟨o, b, T0, A⟩) (T : TypeId) (x : Operand) (ho : op.op = .load T x) (off : Nat)
    (hx : a.eval x = .pointer (some ⟨b, off, none⟩)) (hT : OneT P T) (v : Value) (hv : A[off]? = some v) : (execOp a.eval op).run P w = .ok (.value (v)) w := by
  have hc : w.cell? ⟨b, off, none⟩ = some v := ((hm.has key _ hl).cell off).trans hv
  unfold execOp
  simp only [ho, hx, Instr.loadAt, Instr.sureAddr, loadVar, Sem.run_bind, Sem.run_pure, Result.andThen_ok, hT.agg, run_load, hc, Bool.false_eq_true, if_false]
theorem rn_loadA (hm : MM S w0 w L) (key : Nat) {o : Bool} {b : Nat} {T0 : TypeId} {A : Array Value} (hl : L.lookup key = some ⟨o, b, T0, A⟩) (T : TypeId) (x : Operand) (ho : op.op = .load T x) (off : Nat)
    (hx : a.eval x = .pointer (some ⟨b, off, none⟩)) (m : Nat) (hT : AggT P T m) (C : Array Value) (hC : A.extract off (off + m) = C) (hz : C.size = m) : (execOp a.eval op).run P w = .ok (.value ((.agg C))) w := by
  have hb := hm.has key _ hl
  have hr := World.rangeAt_of_block (w := w) (b := b) (C := A) (t := T0) (fr := (0, 0)) hb off m
  have hl : (loadCells ⟨b, off, none⟩ m).run P w = .ok C w := by
    have := run_loadCells_list (P := P) w ⟨b, off, none⟩ (A.extract off (off + m)).toList (fun j v hv => by rw [Addr.add_mid]; exact hr j v hv)
    rw [hC] at this
    simpa [hz] using this
  unfold execOp
  simp only [ho, hx, Instr.loadAt, Instr.sureAddr, loadVar, Sem.run_bind, Sem.run_pure, Result.andThen_ok, hT.agg, hT.size, hl, if_true]
theorem wl_box (he : EV a n d env) (hm : MM S w0 w L) (key : Nat) (hk : L.lookup key = none) (hd : op.dst.all (· < n) = true) (hw : Region.wanted op (yielded ops a.tmps) = true) (T : TypeId) (x : Operand) (ho : op.op = .box T x) (v : Value) (hx : a.eval x = v) (A : Array Value) (hA : v.cells = A)
    (k : ∀ a' w' b, EV a' n d (putE env op.dst (.pointer (some ⟨b, 0, none⟩))) → MM S w0 w' ((key, ⟨true, b, T, A⟩) :: L) → wpList P ops Q rest a' w') : wpList P ops Q (op :: rest) a w := by
  unfold wpList
  rw [if_pos hw]
  refine .inl ?_
  unfold Oper.wp
  have : (execOp a.eval op).run P w = .ok (.value (.pointer (some ⟨w.heap.size, 0, none⟩))) (w.alloc (.cells A T)) := by
    unfold execOp
    simp only [ho, hx, ← hA]
    rfl
  rw [this]
  exact k _ _ _ (he.putO _ _ hd) (hm.alloc key T A hk)
theorem wl_alloc (he : EV a n d env) (hm : MM S w0 w L) (key : Nat) (hk : L.lookup key = none) (hd : op.dst.all (· < n) = true) (hw : Region.wanted op (yielded ops a.tmps) = true) (T : TypeId) (ho : op.op = .alloc T) (z : Value) (hz : ∀ w, (zeroValue T).run P w = .ok z w) (A : Array Value) (hA : z.cells = A)
    (k : ∀ a' w' b, EV a' n d (putE env op.dst (.pointer (some ⟨b, 0, none⟩))) → MM S w0 w' ((key, ⟨true, b, T, A⟩) :: L) → wpList P ops Q rest a' w') : wpList P ops Q (op :: rest) a w := by
  unfold wpList
  rw [if_pos hw]
  refine .inl ?_
  unfold Oper.wp
  have : (execOp a.eval op).run P w = .ok (.value (.pointer (some ⟨w.heap.size, 0, none⟩))) (w.alloc (.cells A T)) := by
    unfold execOp
    simp only [ho, ← hA, Instr.alloc, Sem.run_bind, hz, Result.andThen_ok]
    rfl
  rw [this]
  exact k _ _ _ (he.putO _ _ hd) (hm.alloc key T A hk)
theorem wl_store (he : EV a n d env) (hm : MM S w0 w L) (key : Nat) {b : Nat} {T0 : TypeId} {A : Array Value} (hl : L.lookup key = some ⟨true, b, T0, A⟩) (hd : op.dst = none) (hw : Region.wanted op (yielded ops a.tmps) = true) (T : TypeId) (x y : Operand) (ho : op.op = .store T x y) (off : Nat)
    (hx : a.eval x = .pointer (some ⟨b, off, none⟩)) (v : Value) (hy : a.eval y = v) (m : Nat) (hT : ∀ w, (sizeOf T).run P w = .ok m w) (hz : v.cells.size = m) (hc : v.cells.all (·.oneCell') = true) (hin : off + m ≤ A.size) (A' : Array Value) (hA : ovw A off v.cells.toList = A')
    (k : ∀ w', MM S w0 w' ((key, ⟨true, b, T0, A'⟩) :: L) → wpList P ops Q rest a w') : wpList P ops Q (op :: rest) a w := by
  unfold wpList
  rw [if_pos hw]
  refine .inl ?_
  unfold Oper.wp
  have hb := hm.has key _ hl
  have hs := run_storeCells_cells (P := P) b off v.cells.toList 0 w
    (fun j hj => by rw [hb.cell]; simp at hj ⊢; omega)
    (fun j hj => hb.frozen _)
    (fun u hu => (Array.all_eq_true_iff_forall_mem.1 hc) u (by simpa using hu))
  simp only [Nat.add_zero] at hs
  have : (execOp a.eval op).run P w = .ok .skip (w.setCells b off v.cells.toList) := by
    unfold execOp
    simp [ho, hx, hy, Instr.storeAt, Instr.sureAddr, storeVar, Sem.run_bind, Sem.run_pure, hT, hz, hs]
  rw [this]
  show wpList P ops Q rest (a.put op.dst undef) _
  rw [hd]
  have := hm.sets key b T0 A hl off v.cells.toList
  rw [hA] at this
  exact k _ this
/-- A call of a function by its contract: it answers v, and keeps what is there. -/
theorem wl_call (he : EV a n d env) (hm : MM S w0 w L) (hd : op.dst.all (· < n) = true) (hw : Region.wanted op (yielded ops a.tmps) = true) (f : FuncId) (args : Array Value) (hr : (execOp a.eval op).run P w = .ok (.enter f args) w) (v : Value)
    (hc : Calls P f args w fun e w' => e = .returned v ∧ Below w.heap.size w w')
    (k : ∀ a' w', EV a' n d (putE env op.dst v) → MM S w0 w' L → wpList P ops Q rest a' w') : wpList P ops Q (op :: rest) a w := by
  unfold wpList
  rw [if_pos hw]
  refine .inl ?_
  unfold Oper.wp
  rw [hr]
  refine hc.mono ?_
  rintro e w' ⟨rfl, hb⟩
  exact k _ _ (he.putO _ _ hd) (hm.kb (KB.of_below hb))
/-- .. it panics. -/
theorem wl_callP (he : EV a n d env) (hm : MM S w0 w L) (hw : Region.wanted op (yielded ops a.tmps) = true) (f : FuncId) (args : Array Value) (hr : (execOp a.eval op).run P w = .ok (.enter f args) w) (ch : List PanicEntry)
    (hc : Calls P f args w fun e w' => e = .panicked ch ∧ Below w.heap.size w w')
    (k : ∀ w', MM S w0 w' L → Q (.panic ch) a w') : wpList P ops Q (op :: rest) a w := by
  unfold wpList
  rw [if_pos hw]
  refine .inl ?_
  unfold Oper.wp
  rw [hr]
  refine hc.mono ?_
  rintro e w' ⟨rfl, hb⟩
  exact k _ (hm.kb (KB.of_below hb))
/-- .. whatever its contract says. -/
theorem wl_callR (he : EV a n d env) (hd : op.dst.all (· < n) = true) (hw : Region.wanted op (yielded ops a.tmps) = true) (f : FuncId) (args : Array Value) (hr : (execOp a.eval op).run P w = .ok (.enter f args) w) {R : Ending → World → Prop} (hc : Calls P f args w R) (hno : ∀ w', ¬ R .outgrown w')
    (k : ∀ a' v w', R (.returned v) w' → EV a' n d (putE env op.dst v) → wpList P ops Q rest a' w') (kp : ∀ ch w', R (.panicked ch) w' → Q (.panic ch) a w') : wpList P ops Q (op :: rest) a w := by
  unfold wpList
  rw [if_pos hw]
  refine .inl ?_
  unfold Oper.wp
  rw [hr]
  refine hc.mono ?_
  intro e w' h
  cases e with
  | returned v => exact k _ _ _ h (he.putO _ _ hd)
  | panicked ch => exact kp _ _ h
  | outgrown => exact absurd h (hno _)
theorem wl_panic (hw : Region.wanted op (yielded ops a.tmps) = true) (x : Operand) (ho : op.op = .panic x) (T : TypeId) (u : Value) (hx : a.eval x = .iface T u) (hr : (Instr.panic (.iface T u)).run P w = .halt (.panic (.iface T u)) w)
    (k : Q (.panic [{ v := .iface T u, recovered := false }]) a w) : wpList P ops Q (op :: rest) a w := by
  unfold wpList
  rw [if_pos hw]
  refine .inl ?_
  unfold Oper.wp
  have : (execOp a.eval op).run P w = .halt (.panic (.iface T u)) w := by
    unfold execOp; simp only [ho, hx, Sem.run_bind, hr]; rfl
  rw [this]
  exact k
theorem enter_func (f : FuncId) (x : Array Operand) (tys : Array TypeId) (args : Array Value) (hx : x.map a.eval = args) (ho : op.op = .call { callee := .value (.func f), args := x, argTypes := tys })
    (hr : (do let d ← resolve a.eval { callee := .value (.func f), args := x, argTypes := tys } op.type; invoke d.target d.args : Sem Next).run P w = .ok (.enter f args) w) : (execOp a.eval op).run P w = .ok (.enter f args) w := by
  unfold execOp; simp only [ho]; exact hr
theorem rn_build (T : TypeId) (parts : Array (Nat × Operand)) (ho : op.op = .build T parts) (vs : Array (Nat × Value)) (hx : parts.map (fun (i, x) => (i, a.eval x)) = vs) (u : Value) (hr : (Instr.build T vs).run P w = .ok u w) : (execOp a.eval op).run P w = .ok (.value u) w := by
  unfold execOp; simp only [ho, hx, Sem.run_bind, hr]; rfl
theorem rn_assert (x : Operand) (T U : TypeId) (q : Bool) (ho : op.op = .typeAssert x T U q) (p u : Value) (hx : a.eval x = p) (hr : (Instr.typeAssert p T U q).run P w = .ok u w) : (execOp a.eval op).run P w = .ok (.value u) w := by
  unfold execOp; simp only [ho, hx, Sem.run_bind, hr]; rfl
end steps

theorem least_ex (p : Nat → Prop) : ∀ m, p m → ∃ m, p m ∧ ∀ k, p k → m ≤ k := by
  intro m
  induction m using Nat.strongRecOn with
  | _ m ih =>
    intro hm
    by_cases h : ∃ k, k < m ∧ p k
    · obtain ⟨k, hk, hp⟩ := h; exact ih k hk hp
    · exact ⟨m, hm, fun k hk => by rcases Nat.lt_or_ge k m with h' | h'; exact absurd ⟨k, h', hk⟩ h; exact h'⟩
noncomputable def leastOf (p : Nat → Prop) : Nat := by
  classical
  exact if h : ∃ m, p m then Classical.choose (least_ex p h.choose h.choose_spec) else 0
theorem leastOf_spec {p : Nat → Prop} (h : ∃ m, p m) : p (leastOf p) ∧ ∀ k, p k → leastOf p ≤ k := by
  unfold leastOf
  rw [dif_pos h]
  exact Classical.choose_spec (least_ex p h.choose h.choose_spec)
section codes
variable {P : Program} {Q : Exit → Act → World → Prop} {a : Act} {w : World} {n : Nat} {d : List Deferred} {env : List (Nat × Value)}
theorem wp_seqR {id : Nat} {l : List Oper} {y : Code} (h : wpList P l.toArray (Exit.then (y.wp P Q) Q) l a w) : (Code.seq (.region id l.toArray false) y).wp P Q a w := wp_seq (wp_region_lit h)
theorem wl_end {ops : Array Oper} {y : Code} (h : y.wp P Q a w) : wpList P ops (Exit.then (y.wp P Q) Q) [] a w := wpList_nil h
theorem wp_condE (he : EV a n d env) {t : Nat} {x y : Code} {q r : Bool} (hl : env.lookup t = some (.bool q)) (hq : q = r) (h : (if r then x else y).wp P Q a w) : (Code.cond (.tmp t) x y).wp P Q a w :=
  wp_cond (t := r) (by rw [he.tmp t _ hl, hq]) h
theorem then_normal {y : Code} (h : y.wp P Q a w) : Exit.then (y.wp P Q) Q .normal a w := h
theorem in_normal {id : Nat} (h : Q .normal a w) : Exit.inBlock id Q .normal a w := h
theorem exit_here {id : Nat} (h : Q .normal a w) : Exit.inBlock id Q (.exit id) a w := by simp only [Exit.inBlock, if_true]; exact h
theorem exit_then {K : Act → World → Prop} {id : Nat} (h : Q (.exit id) a w) : Exit.then K Q (.exit id) a w := h
theorem exit_out {id id' : Nat} (hne : id' ≠ id) (h : Q (.exit id') a w) : Exit.inBlock id Q (.exit id') a w := by simp only [Exit.inBlock, if_neg hne]; exact h
theorem ret_then {K : Act → World → Prop} (h : Q .ret a w) : Exit.then K Q .ret a w := h
theorem ret_in {id : Nat} (h : Q .ret a w) : Exit.inBlock id Q .ret a w := h
theorem pan_then {K : Act → World → Prop} {ch : List PanicEntry} (h : Q (.panic ch) a w) : Exit.then K Q (.panic ch) a w := h
theorem pan_in {id : Nat} {ch : List PanicEntry} (h : Q (.panic ch) a w) : Exit.inBlock id Q (.panic ch) a w := h
theorem wp_condT {he : EV a n d env} {t : Nat} {x y : Code} (hl : env.lookup t = some (.bool true)) (h : x.wp P Q a w) : (Code.cond (.tmp t) x y).wp P Q a w := wp_cond_true (he.tmp t _ hl) h
theorem wp_condF {he : EV a n d env} {t : Nat} {x y : Code} (hl : env.lookup t = some (.bool false)) (h : y.wp P Q a w) : (Code.cond (.tmp t) x y).wp P Q a w := wp_cond_false (he.tmp t _ hl) h
/-- A loop by a number that falls. -/
theorem wp_loopN {c : Code} (I : Nat → Act → World → Prop) (h0 : ∃ m, I m a w) (round : ∀ m a w, I m a w → c.wp P (Exit.then (fun a' w' => ∃ m', m' < m ∧ I m' a' w') Q) a w) : (Code.loop c).wp P Q a w := by
  refine wp_loop (fun a w => ∃ m, I m a w) (fun a w => leastOf fun m => I m a w) h0 ?_
  intro a w hI
  refine Code.wp_mono ?_ (round _ a w (leastOf_spec hI).1)
  intro e a' w' hq
  cases e with
  | normal =>
    obtain ⟨m', hlt, hI'⟩ := hq
    exact ⟨⟨m', hI'⟩, Nat.lt_of_le_of_lt ((leastOf_spec ⟨m', hI'⟩).2 m' hI') hlt⟩
  | _ => exact hq
end codes
theorem pmap1 {f : Operand → Value} {i : Nat} {x : Operand} {u : Value} (h : f x = u) : #[(i, x)].map (fun (p : Nat × Operand) => (p.1, f p.2)) = #[(i, u)] := by simp [h]
theorem pmap2 {f : Operand → Value} {i j : Nat} {x y : Operand} {u v : Value} (h : f x = u) (h2 : f y = v) : #[(i, x), (j, y)].map (fun (p : Nat × Operand) => (p.1, f p.2)) = #[(i, u), (j, v)] := by simp [h, h2]
theorem pmap3 {f : Operand → Value} {i j k : Nat} {x y z : Operand} {u v t : Value} (h : f x = u) (h2 : f y = v) (h3 : f z = t) : #[(i, x), (j, y), (k, z)].map (fun (p : Nat × Operand) => (p.1, f p.2)) = #[(i, u), (j, v), (k, t)] := by simp [h, h2, h3]
theorem addw {x y : Int} (h1 : -9223372036854775808 ≤ x + y) (h2 : x + y ≤ 9223372036854775807) : Value.int .i64 (IntKind.i64.wrap (x + y)) = .int .i64 (x + y) := by rw [IntKind.wrap_i64]; congr 1; omega
theorem subw {x y : Int} (h1 : -9223372036854775808 ≤ x - y) (h2 : x - y ≤ 9223372036854775807) : Value.int .i64 (IntKind.i64.wrap (x - y)) = .int .i64 (x - y) := by rw [IntKind.wrap_i64]; congr 1; omega
end Go.Proofs.YtkaekiodjjhjkaaDoor
