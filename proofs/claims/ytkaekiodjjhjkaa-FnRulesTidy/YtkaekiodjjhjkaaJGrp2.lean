/- Opening an argument of type []byte. -/
import Derived.Test.YtkaekiodjjhjkaaRows
import Derived.Test.YtkaekiodjjhjkaaJGrp1
import Derived.WalkKit
import Derived.ProofKit
import Derived.OpenShut
import Derived.ChangeSlices
import Derived.ChangeOld
import Derived.Below
import Derived.Deep.MidRow
import Derived.Defers
import Derived.RangeFuncRecord
import Derived.Deep.RegionHeld
import Derived.Laws.AppendOwn
import Derived.LoopN
import Derived.Laws.Concat
import Derived.Laws.OwnMore
import Derived.Laws.BytesArg
import Derived.Test.YtkaekiodjjhjkaaProg
import Derived.Lib.Repeat
set_option maxRecDepth 100000
set_option linter.unusedSimpArgs false
set_option linter.unusedVariables false
namespace Go.Proofs.Ytkaekiodjjhjkaa
open Go.ChangeShapes Go.WideShapes Go.ChangeAt Go.RowKit
theorem own : ownKnob Try.prog.godebug = none := by kernel_rfl
theorem laidOut : laidOutB Try.prog = true := by kernel_rfl
theorem cellsB : Try.prog.cellsOf 5 = 1 := by kernel_rfl
theorem open_bytes {H : Type} {enc : TypeId × Value → H} {w : World} {r : Reach} {b0 base : Nat} {spare : Nat → Bool} {held : Bool} {v : Value} {d0 : DataW H} {p : List MemPlace}
 (hv : Value.okWide Try.prog w r b0 22 v) (h : DataW.Trod enc Try.prog w base spare held 22 v d0 p) :
 ∃ (a : Option Addr) (len cap : Nat), v = .slice a len cap ∧ len ≤ cap ∧ cap < 2 ^ 63 ∧ Src w a len := by
 obtain ⟨a, len, cap, rfl⟩ := okWide_slice Try.underlying22 hv
 obtain ⟨fuel, hf⟩ := h
 rcases Go.ChangeShapes.open_ints Try.underlying22 Try.underlying5 cellsB hf with ⟨hcs, _⟩ | ⟨x, len', cap', zs, hcs, _, hl, hm, hz, _, hc, hw⟩
 ·simp [Value.cells] at hcs
  obtain ⟨rfl, rfl, rfl⟩ := hcs
  exact ⟨none, 0, 0, rfl, Nat.le_refl _, by decide, .inl rfl⟩
 ·simp [Value.cells] at hcs
  obtain ⟨rfl, rfl, rfl⟩ := hcs
  refine ⟨_, _, _, rfl, hl, Nat.lt_of_le_of_lt hm (by decide), ?_⟩
  have hlz : len ≤ zs.length := by rw [hz]; split <;> omega
  by_cases h0 : len = 0
  ·exact .inl h0
  have c0 := hc 0 (by omega)
  obtain ⟨b, off, spot⟩ := x
  have hspot : spot = none := by
   have := World.cell?_spot c0
   simpa [Addr.add] using this
  subst hspot
  refine .inr ⟨b, off, rfl, ?_, fun j hj => ?_⟩
  ·have := World.block_lt_of_cell? w _ c0
   simpa [Addr.add] using this
  ·have c := hc j (by omega)
   have hj2 : j < zs.length := by omega
   have hmem : zs.getD j 0 ∈ zs := by simp [hj2]
   have wf := hw _ hmem
   rw [Addr.add_lit] at c
   have k : 0 ≤ zs.getD j 0 ∧ zs.getD j 0 < 256 := by
    simp only [Lit.wf, Bool.and_eq_true] at wf
    have l1 : (0 : Int) ≤ zs.getD j 0 := of_decide_eq_true wf.1
    have l2 : zs.getD j 0 ≤ (255 : Int) := of_decide_eq_true wf.2
    omega
   refine ⟨(zs.getD j 0).toNat, by omega, ?_⟩
   rw [c, Int.toNat_of_nonneg k.1]
end Go.Proofs.Ytkaekiodjjhjkaa
namespace Go.Proofs.Ytkaekiodjjhjkaa
open Go.RowKit
structure Ent where
 own : Bool
 b : Nat
 T : TypeId
 A : Array Value
def BX (w : World) (b : Nat) (T : TypeId) (A : Array Value) : Prop := w.heap[b]? = some (.cells A T (0, 0))
structure KB (S : List Nat) (w w' : World) : Prop where
 os : w'.os = w.os
 tape : w'.tape = w.tape
 output : w'.output = w.output
 size : w.heap.size ≤ w'.heap.size
 block : ∀ k, k < w.heap.size → k ∉ S → w'.heap[k]? = w.heap[k]?
theorem KB.refl (S : List Nat) (w : World) : KB S w w := ⟨rfl, rfl, rfl, Nat.le_refl _, fun _ _ _ => rfl⟩
theorem KB.below {w w' : World} (h : KB [] w w') : Below w.heap.size w w' := ⟨h.os, h.tape, h.output, h.size, fun k hk => h.block k hk (by simp)⟩
theorem KB.of_below {w w' : World} (h : Below w.heap.size w w') : KB [] w w' := ⟨h.os, h.tape, h.output, h.size, fun k hk _ => h.block k hk⟩
theorem BX.lt {w : World} {b : Nat} {T : TypeId} {A : Array Value} (h : BX w b T A) : b < w.heap.size := (Array.getElem?_eq_some_iff.1 h).1
theorem BX.cell {w : World} {b : Nat} {T : TypeId} {A : Array Value} (h : BX w b T A) (j : Nat) : w.cell? ⟨b, j, none⟩ = A[j]? := by
 simp [World.cell?, show w.heap[b]? = _ from h]
theorem BX.frozen {w : World} {b : Nat} {T : TypeId} {A : Array Value} (h : BX w b T A) (j : Nat) : w.frozen? ⟨b, j, none⟩ = false := by
 simp [World.frozen?, show w.heap[b]? = _ from h]
theorem BX.kb {S : List Nat} {w w' : World} {b : Nat} {T : TypeId} {A : Array Value} (h : BX w b T A) (k : KB S w w') (hb : b ∉ S) : BX w' b T A :=
 (k.block b h.lt hb).trans h
structure MM (S : List Nat) (w0 w : World) (L : List (Nat × Ent)) : Prop where
 keep : KB S w0 w
 has : ∀ k e, L.lookup k = some e → BX w e.b e.T e.A
 own : ∀ k e, L.lookup k = some e → e.own = true → w0.heap.size ≤ e.b ∨ e.b ∈ S
 apart : ∀ j k e f, L.lookup j = some e → L.lookup k = some f → j ≠ k → e.own = true → e.b ≠ f.b
theorem MM.nil (w : World) : MM [] w w [] := ⟨KB.refl _ _, fun _ _ h => by simp at h, fun _ _ h => by simp at h, fun _ _ _ _ h => by simp at h⟩
theorem MM.start1 {w : World} {b : Nat} {T : TypeId} {A : Array Value} (key : Nat) (h : BX w b T A) : MM [b] w w [(key, ⟨true, b, T, A⟩)] := by
 have one : ∀ k e, List.lookup k [(key, (⟨true, b, T, A⟩ : Ent))] = some e → k = key ∧ e = ⟨true, b, T, A⟩ := by
  intro k e hk
  rw [List.lookup_cons] at hk
  by_cases hh : k = key
  ·subst hh; simp at hk; exact ⟨rfl, hk.symm⟩
  ·rw [show (k == key) = false by simpa using hh] at hk; simp at hk
 refine ⟨KB.refl _ _, ?_, ?_, ?_⟩
 ·intro k e hk; obtain ⟨_, rfl⟩ := one k e hk; exact h
 ·intro k e hk _; obtain ⟨_, rfl⟩ := one k e hk; exact .inr (by simp)
 ·intro j k e f hj hk hne; exact absurd ((one j e hj).1.trans (one k f hk).1.symm) hne
theorem MM.below {w0 w : World} {L : List (Nat × Ent)} (h : MM [] w0 w L) : Below w0.heap.size w0 w := h.keep.below
structure EV (a : Act) (n : Nat) (d : List Deferred) (env : List (Nat × Value)) : Prop where
 size : a.tmps.size = n
 defers : a.defers = d
 has : ∀ t v, env.lookup t = some v → a.tmps[t]? = some v
theorem EV.tmp {a : Act} {n : Nat} {d : List Deferred} {env : List (Nat × Value)} (h : EV a n d env) (t : Nat) (v : Value) (hl : env.lookup t = some v) : a.eval (.tmp t) = v := by
 have := h.has t v hl
 simp [Act.eval, Array.getD_eq_getD_getElem?, this]
theorem EV.at {a : Act} {n : Nat} {d : List Deferred} {env : List (Nat × Value)} (h : EV a n d env) (t : Nat) (v : Value) (hl : env.lookup t = some v) : a.tmps.getD t undef = v := by
 have := h.has t v hl
 simp [Array.getD_eq_getD_getElem?, this]
theorem EV.put {a : Act} {n : Nat} {d : List Deferred} {env : List (Nat × Value)} (h : EV a n d env) (t : Nat) (v : Value) (ht : t < n) : EV (a.put (some t) v) n d ((t, v) :: env) := by
 refine ⟨by simp [Act.put, h.size], h.defers, fun s u hs => ?_⟩
 simp only [Act.put]
 rw [Array.getElem?_setIfInBounds]
 by_cases e : s = t
 ·subst e
  simp at hs
  simp [h.size, ht, hs]
 ·rw [if_neg (fun h => e h.symm)]
  refine h.has s u ?_
  rw [List.lookup_cons, show (s == t) = false by simpa using e] at hs
  exact hs
def putE (env : List (Nat × Value)) (dst : Option Tmp) (v : Value) : List (Nat × Value) := match dst with
 | some t => (t, v) :: env
 | none => env
theorem EV.putO {a : Act} {n : Nat} {d : List Deferred} {env : List (Nat × Value)} (h : EV a n d env) (dst : Option Tmp) (v : Value) (ht : dst.all (· < n) = true) : EV (a.put dst v) n d (putE env dst v) := by
 cases dst with
 | none => exact h
 | some t => exact h.put t v (by simpa using ht)
theorem EV.begin (l : Array Value) (d : List Deferred) (n : Nat) (hn : l.size = n) (env : List (Nat × Value)) (h : ∀ p ∈ env, l[p.1]? = some p.2) : EV { tmps := l, defers := d } n d env := by
 refine ⟨hn, rfl, fun t v hl => ?_⟩
 induction env with
 | nil => simp at hl
 | cons p r ih =>
   obtain ⟨s, u⟩ := p
   rw [List.lookup_cons] at hl
   by_cases e : t = s
   ·subst e
    simp at hl
    subst hl
    exact h (t, u) (by simp)
   ·rw [show (t == s) = false by simpa using e] at hl
    exact ih (fun p hp => h p (by simp [hp])) hl
theorem lk (k k' : Nat) (e : Ent) (L : List (Nat × Ent)) : ((k', e) :: L).lookup k = if k = k' then some e else L.lookup k := by
 rw [List.lookup_cons]
 by_cases h : k = k'
 ·simp [h]
 ·rw [show (k == k') = false by simpa using h, if_neg h]
section mem
variable {S : List Nat} {w0 w : World} {L : List (Nat × Ent)}
theorem MM.alloc (h : MM S w0 w L) (key : Nat) (T : TypeId) (A : Array Value) (hk : L.lookup key = none) : MM S w0 (w.alloc (.cells A T)) ((key, ⟨true, w.heap.size, T, A⟩) :: L) := by
 have hs := h.keep.size
 have old : ∀ k, k < w.heap.size → (w.alloc (.cells A T)).heap[k]? = w.heap[k]? := fun k hk => Below.heap_alloc _ _ _ hk
 refine ⟨⟨h.keep.os, h.keep.tape, h.keep.output, by simp; omega, fun k hk hS => (old k (by omega)).trans (h.keep.block k hk hS)⟩, ?_, ?_, ?_⟩
 ·intro k e hl
  rw [lk] at hl
  split at hl
  ·cases hl; exact World.alloc_heap_new w _
  ·have := h.has k e hl; exact (old e.b this.lt).trans this
 ·intro k e hl ho
  rw [lk] at hl
  split at hl
  ·cases hl; exact .inl hs
  ·exact h.own k e hl ho
 ·intro j k e f hj hk' hne ho
  rw [lk] at hj hk'
  split at hj <;> split at hk'
  ·rename_i h1 h2; exact absurd (h1.trans h2.symm) hne
  ·cases hj; have := (h.has k f hk').lt; simp; omega
  ·cases hk'; have := (h.has j e hj).lt; simp; omega
  ·exact h.apart j k e f hj hk' hne ho
theorem BX.set {b : Nat} {T : TypeId} {A : Array Value} (h : BX w b T A) (o : Nat) (v : Value) : BX (w.setCell ⟨b, o, none⟩ v) b T (A.setIfInBounds o v) := by
 unfold BX at *
 simp only [World.setCell, Array.getElem?_modify, if_pos rfl, h]
 rfl
def ovw (A : Array Value) (o : Nat) : List Value → Array Value
 | [] => A
 | v :: r => ovw (A.setIfInBounds o v) (o + 1) r
theorem BX.sets {b : Nat} {T : TypeId} : ∀ (cs : List Value) {w : World} {A : Array Value} (h : BX w b T A) (o : Nat), BX (w.setCells b o cs) b T (ovw A o cs)
 | [], _, _, h, _ => h
 | v :: r, _, _, h, o => BX.sets r (h.set o v) (o + 1)
theorem setCells_other {b : Nat} : ∀ (cs : List Value) (w : World) (o k : Nat), k ≠ b → (w.setCells b o cs).heap[k]? = w.heap[k]?
 | [], _, _, _, _ => rfl
 | v :: r, w, o, k, hne => (setCells_other r _ (o + 1) k hne).trans (Below.heap_setCell _ _ _ _ hne)
theorem setCells_size {b : Nat} : ∀ (cs : List Value) (w : World) (o : Nat), (w.setCells b o cs).heap.size = w.heap.size
 | [], _, _ => rfl
 | v :: r, w, o => (setCells_size r _ (o + 1)).trans (by simp [World.setCell])
theorem setCells_rest {b : Nat} : ∀ (cs : List Value) (w : World) (o : Nat), (w.setCells b o cs).os = w.os ∧ (w.setCells b o cs).tape = w.tape ∧ (w.setCells b o cs).output = w.output
 | [], _, _ => ⟨rfl, rfl, rfl⟩
 | v :: r, w, o => setCells_rest r _ (o + 1)
theorem MM.sets (h : MM S w0 w L) (key : Nat) (b : Nat) (T : TypeId) (A : Array Value) (hl : L.lookup key = some ⟨true, b, T, A⟩) (o : Nat) (cs : List Value) :
 MM S w0 (w.setCells b o cs) ((key, ⟨true, b, T, ovw A o cs⟩) :: L) := by
 have hb := h.has key _ hl
 have hown := h.own key _ hl rfl
 obtain ⟨r1, r2, r3⟩ := setCells_rest (b := b) cs w o
 have hz := setCells_size (b := b) cs w o
 refine ⟨⟨r1.trans h.keep.os, r2.trans h.keep.tape, r3.trans h.keep.output, by rw [hz]; exact h.keep.size, fun k hk hS => ?_⟩, ?_, ?_, ?_⟩
 ·rw [setCells_other cs w o k ?_]
  ·exact h.keep.block k hk hS
  ·rintro rfl
   simp at hown
   rcases hown with h' | h'
   ·omega
   ·exact hS h'
 ·intro k e hk
  rw [lk] at hk
  split at hk
  ·cases hk; exact BX.sets cs hb o
  ·rename_i hne
   have := h.has k e hk
   exact (setCells_other cs w o e.b (fun he => h.apart key k _ e hl hk (Ne.symm hne) rfl he.symm)).trans this
 ·intro k e hk ho
  rw [lk] at hk
  split at hk
  ·cases hk; exact hown
  ·exact h.own k e hk ho
 ·intro j k e f hj hk hne ho
  rw [lk] at hj hk
  split at hj <;> split at hk
  ·rename_i h1 h2; exact absurd (h1.trans h2.symm) hne
  ·rename_i h1 h2; cases hj; exact h.apart key k ⟨true, b, T, A⟩ f hl hk (fun e => h2 e.symm) rfl
  ·rename_i h1 h2; cases hk; exact h.apart j key e ⟨true, b, T, A⟩ hj hl h1 ho
  ·exact h.apart j k e f hj hk hne ho
theorem MM.kb {w' : World} (h : MM S w0 w L) (k : KB [] w w') : MM S w0 w' L :=
 ⟨⟨k.os.trans h.keep.os, k.tape.trans h.keep.tape, k.output.trans h.keep.output, Nat.le_trans h.keep.size k.size, fun i hi hS => (k.block i (Nat.lt_of_lt_of_le hi h.keep.size) (by simp)).trans (h.keep.block i hi hS)⟩,
   fun j e hj => (h.has j e hj).kb k (by simp), h.own, h.apart⟩
theorem MM.kb1 {w' : World} (h : MM S w0 w L) (key : Nat) (b : Nat) (T : TypeId) (A A' : Array Value) (hl : L.lookup key = some ⟨true, b, T, A⟩) (k : KB [b] w w') (hx : BX w' b T A') :
 MM S w0 w' ((key, ⟨true, b, T, A'⟩) :: L) := by
 have hown := h.own key _ hl rfl
 refine ⟨⟨k.os.trans h.keep.os, k.tape.trans h.keep.tape, k.output.trans h.keep.output, Nat.le_trans h.keep.size k.size, fun i hi hS => ?_⟩, ?_, ?_, ?_⟩
 ·refine (k.block i (Nat.lt_of_lt_of_le hi h.keep.size) ?_).trans (h.keep.block i hi hS)
  simp
  rintro rfl
  simp at hown
  rcases hown with h' | h'
  ·omega
  ·exact hS h'
 ·intro j e hk
  rw [lk] at hk
  split at hk
  ·cases hk; exact hx
  ·rename_i hne
   exact (h.has j e hk).kb k (by simp; exact fun he => h.apart key j _ e hl hk (Ne.symm hne) rfl he.symm)
 ·intro j e hk ho
  rw [lk] at hk
  split at hk
  ·cases hk; exact hown
  ·exact h.own j e hk ho
 ·intro j i e f hj hk hne ho
  rw [lk] at hj hk
  split at hj <;> split at hk
  ·rename_i h1 h2; exact absurd (h1.trans h2.symm) hne
  ·rename_i h1 h2; cases hj; exact h.apart key i ⟨true, b, T, A⟩ f hl hk (fun e => h2 e.symm) rfl
  ·rename_i h1 h2; cases hk; exact h.apart j key e ⟨true, b, T, A⟩ hj hl h1 ho
  ·exact h.apart j i e f hj hk hne ho
theorem MM.old (h : MM S w0 w L) (key : Nat) (b : Nat) (T : TypeId) (A : Array Value) (hk : L.lookup key = none) (hx : BX w0 b T A) (hb : b ∉ S) : MM S w0 w ((key, ⟨false, b, T, A⟩) :: L) := by
 have hx' : BX w b T A := hx.kb h.keep hb
 refine ⟨h.keep, ?_, ?_, ?_⟩
 ·intro j e hj
  rw [lk] at hj
  split at hj
  ·cases hj; exact hx'
  ·exact h.has j e hj
 ·intro j e hj ho
  rw [lk] at hj
  split at hj
  ·cases hj; simp at ho
  ·exact h.own j e hj ho
 ·intro j k e f hj hk' hne ho
  rw [lk] at hj hk'
  split at hj <;> split at hk'
  ·rename_i h1 h2; exact absurd (h1.trans h2.symm) hne
  ·cases hj; simp at ho
  ·cases hk'
   have h1 := hx.lt
   have := h.own j e hj ho
   rintro rfl
   rcases this with h' | h'
   ·omega
   ·exact hb h'
  ·exact h.apart j k e f hj hk' hne ho
theorem MM.bx (h : MM S w0 w L) (key : Nat) (o : Bool) (b : Nat) (T : TypeId) (A : Array Value) (hl : L.lookup key = some ⟨o, b, T, A⟩) : BX w b T A := h.has key _ hl
end mem
structure AggT (P : Program) (T : TypeId) (n : Nat) : Prop where
 agg : ∀ w, (isAgg T).run P w = .ok true w
 size : ∀ w, (sizeOf T).run P w = .ok n w
structure OneT (P : Program) (T : TypeId) : Prop where
 agg : ∀ w, (isAgg T).run P w = .ok false w
 size : ∀ w, (sizeOf T).run P w = .ok 1 w
section steps
variable {P : Program} {ops : Array Oper} {Q : Exit → Act → World → Prop} {rest : List Oper} {op : Oper} {a : Act} {w w0 : World} {S : List Nat} {L : List (Nat × Ent)}
 {n : Nat} {d : List Deferred} {env : List (Nat × Value)}
theorem wl_val (he : EV a n d env) (hd : op.dst.all (· < n) = true) (hw : Region.wanted op (yielded ops a.tmps) = true) (v : Value) (hr : (execOp a.eval op).run P w = .ok (.value v) w)
 (k : ∀ a', EV a' n d (putE env op.dst v) → wpList P ops Q rest a' w) : wpList P ops Q (op :: rest) a w := by
 unfold wpList
 rw [if_pos hw]
 refine .inl ?_
 unfold Oper.wp
 rw [hr]
 exact k _ (he.putO _ _ hd)
theorem wl_not (he : EV a n d env) (hd : op.dst.all (· < n) = true) (hw : Region.wanted op (yielded ops a.tmps) = false)
 (k : ∀ a', EV a' n d (putE env op.dst undef) → wpList P ops Q rest a' w) : wpList P ops Q (op :: rest) a w := by
 unfold wpList
 rw [hw]
 exact k _ (he.putO _ _ hd)
theorem rn_move (x : Operand) (ho : op.op = .move x ∨ op.op = .assign x) (v : Value) (hx : a.eval x = v) : (execOp a.eval op).run P w = .ok (.value (v)) w := by
 rcases ho with ho | ho <;> (unfold execOp; simp only [ho, hx]; rfl)
theorem rn_pick (c x y : Operand) (ho : op.op = .pick c x y) (q : Bool) (hc : a.eval c = .bool q) (v : Value) (hx : (if q then a.eval x else a.eval y) = v) : (execOp a.eval op).run P w = .ok (.value (v)) w := by
 unfold execOp; simp only [ho, hc, ← hx]; cases q <;> rfl
theorem rn_pickT (c x y : Operand) (ho : op.op = .pick c x y) (hc : a.eval c = .bool true) (v : Value) (hx : a.eval x = v) : (execOp a.eval op).run P w = .ok (.value (v)) w := rn_pick c x y ho true hc v hx
theorem rn_pickF (c x y : Operand) (ho : op.op = .pick c x y) (hc : a.eval c = .bool false) (v : Value) (hx : a.eval y = v) : (execOp a.eval op).run P w = .ok (.value (v)) w := rn_pick c x y ho false hc v hx
theorem rn_field (T : TypeId) (x : Operand) (f : Nat) (ho : op.op = .fieldAddr T x f) (v u : Value) (hx : a.eval x = v)
 (hr : (Instr.fieldAt T v f).run P w = .ok u w) : (execOp a.eval op).run P w = .ok (.value (u)) w := by
 unfold execOp; simp only [ho, hx, Sem.run_bind, hr]; rfl
theorem rn_indexA (T : TypeId) (x y : Operand) (ho : op.op = .indexAddr T x y) (v i u : Value) (hx : a.eval x = v) (hy : a.eval y = i)
 (hr : (Instr.indexAt T v i).run P w = .ok u w) : (execOp a.eval op).run P w = .ok (.value (u)) w := by
 unfold execOp; simp only [ho, hx, hy, Sem.run_bind, hr]; rfl
theorem rn_bin (b : BinOp) (T U : TypeId) (x y : Operand) (ho : op.op = .binOp b T x y U) (k1 : IntKind) (p q : Int) (hx : a.eval x = .int k1 p) (hy : a.eval y = .int k1 q) (u v : Value)
 (hr : (binOp b T (.int k1 p) (.int k1 q)).run P w = .ok u w) (hv : u = v) : (execOp a.eval op).run P w = .ok (.value (v)) w := by
 subst hv
 unfold execOp
 have : (eqGuard b T x y (.int k1 p) (.int k1 q)).run P w = .ok () w := by unfold eqGuard; split <;> rfl
 simp only [ho, hx, hy, Sem.run_bind, this, hr, Result.andThen_ok]; rfl
theorem rn_binG (b : BinOp) (T U : TypeId) (x y : Operand) (ho : op.op = .binOp b T x y U) (p q : Value) (hx : a.eval x = p) (hy : a.eval y = q) (v : Value)
 (hg : (eqGuard b T x y p q).run P w = .ok () w) (hr : (binOp b T p q).run P w = .ok v w) : (execOp a.eval op).run P w = .ok (.value (v)) w := by
 unfold execOp
 simp only [ho, hx, hy, Sem.run_bind, hg, hr, Result.andThen_ok]; rfl
theorem rn_un (b : UnOp) (T : TypeId) (x : Operand) (ho : op.op = .unOp b T x) (p u v : Value) (hx : a.eval x = p)
 (hr : (Op.unary b p).run P w = .ok u w) (hv : u = v) : (execOp a.eval op).run P w = .ok (.value (v)) w := by
 subst hv
 unfold execOp; simp only [ho, hx, Sem.run_bind, hr]; rfl
theorem rn_conv (s t : TypeId) (x : Operand) (ho : op.op = .convert s t x) (p u v : Value) (hx : a.eval x = p)
 (hr : (convert s t p).run P w = .ok u w) (hv : u = v) : (execOp a.eval op).run P w = .ok (.value (v)) w := by
 subst hv
 unfold execOp; simp only [ho, hx, Sem.run_bind, hr]; rfl
theorem rn_extract (x : Operand) (i : Nat) (ho : op.op = .extract x i) (vs : Array Value) (hx : a.eval x = .tuple vs) (u : Value)
 (hr : vs[i]? = some u) : (execOp a.eval op).run P w = .ok (.value (u)) w := by
 unfold execOp; simp only [ho, hx, Instr.extract, hr]; rfl
theorem rn_func (f : Fn) (x y : Array Operand) (ho : op.op = .makeFunc f x y) (vs us : Array Value) (hx : x.map a.eval = vs) (hy : y.map a.eval = us) : (execOp a.eval op).run P w = .ok (.value ((.func f vs us))) w := by
 unfold execOp; simp only [ho, hx, hy]; rfl
theorem rn_load1 (hm : MM S w0 w L) (key : Nat) {o : Bool} {b : Nat} {T0 : TypeId} {A : Array Value} (hl : L.lookup key = some ⟨o, b, T0, A⟩) (T : TypeId) (x : Operand) (ho : op.op = .load T x) (off : Nat)
 (hx : a.eval x = .pointer (some ⟨b, off, none⟩)) (hT : OneT P T) (v : Value) (hv : A[off]? = some v) : (execOp a.eval op).run P w = .ok (.value (v)) w := by
 have hc : w.cell? ⟨b, off, none⟩ = some v := ((hm.has key _ hl).cell off).trans hv
 unfold execOp
 simp only [ho, hx, Instr.loadAt, Instr.sureAddr, loadVar, Sem.run_bind, Sem.run_pure, Result.andThen_ok, hT.agg, run_load, hc, Bool.false_eq_true, if_false]
theorem rn_loadA (hm : MM S w0 w L) (key : Nat) {o : Bool} {b : Nat} {T0 : TypeId} {A : Array Value} (hl : L.lookup key = some ⟨o, b, T0, A⟩) (T : TypeId) (x : Operand) (ho : op.op = .load T x) (off : Nat)
 (hx : a.eval x = .pointer (some ⟨b, off, none⟩)) (m : Nat) (hT : AggT P T m) (C : Array Value) (hC : A.extract off (off + m) = C) (hz : C.size = m) : (execOp a.eval op).run P w = .ok (.value ((.agg C))) w := by
 have hb := hm.has key _ hl
 have hr := World.rangeAt_of_block (w := w) (b := b) (C := A) (t := T0) (fr := (0, 0)) hb off m
 have hl : (loadCells ⟨b, off, none⟩ m).run P w = .ok C w := by
  have := run_loadCells_list (P := P) w ⟨b, off, none⟩ (A.extract off (off + m)).toList (fun j v hv => by rw [Addr.add_mid]; exact hr j v hv)
  rw [hC] at this
  simpa [hz] using this
 unfold execOp
 simp only [ho, hx, Instr.loadAt, Instr.sureAddr, loadVar, Sem.run_bind, Sem.run_pure, Result.andThen_ok, hT.agg, hT.size, hl, if_true]
theorem wl_box (he : EV a n d env) (hm : MM S w0 w L) (key : Nat) (hk : L.lookup key = none) (hd : op.dst.all (· < n) = true) (hw : Region.wanted op (yielded ops a.tmps) = true) (T : TypeId) (x : Operand) (ho : op.op = .box T x) (v : Value) (hx : a.eval x = v) (A : Array Value) (hA : v.cells = A)
 (k : ∀ a' w' b, EV a' n d (putE env op.dst (.pointer (some ⟨b, 0, none⟩))) → MM S w0 w' ((key, ⟨true, b, T, A⟩) :: L) → wpList P ops Q rest a' w') : wpList P ops Q (op :: rest) a w := by
 unfold wpList
 rw [if_pos hw]
 refine .inl ?_
 unfold Oper.wp
 have : (execOp a.eval op).run P w = .ok (.value (.pointer (some ⟨w.heap.size, 0, none⟩))) (w.alloc (.cells A T)) := by
  unfold execOp
  simp only [ho, hx, ← hA]
  rfl
 rw [this]
 exact k _ _ _ (he.putO _ _ hd) (hm.alloc key T A hk)
theorem wl_alloc (he : EV a n d env) (hm : MM S w0 w L) (key : Nat) (hk : L.lookup key = none) (hd : op.dst.all (· < n) = true) (hw : Region.wanted op (yielded ops a.tmps) = true) (T : TypeId) (ho : op.op = .alloc T) (z : Value) (hz : ∀ w, (zeroValue T).run P w = .ok z w) (A : Array Value) (hA : z.cells = A)
 (k : ∀ a' w' b, EV a' n d (putE env op.dst (.pointer (some ⟨b, 0, none⟩))) → MM S w0 w' ((key, ⟨true, b, T, A⟩) :: L) → wpList P ops Q rest a' w') : wpList P ops Q (op :: rest) a w := by
 unfold wpList
 rw [if_pos hw]
 refine .inl ?_
 unfold Oper.wp
 have : (execOp a.eval op).run P w = .ok (.value (.pointer (some ⟨w.heap.size, 0, none⟩))) (w.alloc (.cells A T)) := by
  unfold execOp
  simp only [ho, ← hA, Instr.alloc, Sem.run_bind, hz, Result.andThen_ok]
  rfl
 rw [this]
 exact k _ _ _ (he.putO _ _ hd) (hm.alloc key T A hk)
theorem wl_store (he : EV a n d env) (hm : MM S w0 w L) (key : Nat) {b : Nat} {T0 : TypeId} {A : Array Value} (hl : L.lookup key = some ⟨true, b, T0, A⟩) (hd : op.dst = none) (hw : Region.wanted op (yielded ops a.tmps) = true) (T : TypeId) (x y : Operand) (ho : op.op = .store T x y) (off : Nat)
 (hx : a.eval x = .pointer (some ⟨b, off, none⟩)) (v : Value) (hy : a.eval y = v) (m : Nat) (hT : ∀ w, (sizeOf T).run P w = .ok m w) (hz : v.cells.size = m) (hc : v.cells.all (·.oneCell') = true) (hin : off + m ≤ A.size) (A' : Array Value) (hA : ovw A off v.cells.toList = A')
 (k : ∀ w', MM S w0 w' ((key, ⟨true, b, T0, A'⟩) :: L) → wpList P ops Q rest a w') : wpList P ops Q (op :: rest) a w := by
 unfold wpList
 rw [if_pos hw]
 refine .inl ?_
 unfold Oper.wp
 have hb := hm.has key _ hl
 have hs := run_storeCells_cells (P := P) b off v.cells.toList 0 w
  (fun j hj => by rw [hb.cell]; simp at hj ⊢; omega)
  (fun j hj => hb.frozen _)
  (fun u hu => (Array.all_eq_true_iff_forall_mem.1 hc) u (by simpa using hu))
 simp only [Nat.add_zero] at hs
 have : (execOp a.eval op).run P w = .ok .skip (w.setCells b off v.cells.toList) := by
  unfold execOp
  simp [ho, hx, hy, Instr.storeAt, Instr.sureAddr, storeVar, Sem.run_bind, Sem.run_pure, hT, hz, hs]
 rw [this]
 show wpList P ops Q rest (a.put op.dst undef) _
 rw [hd]
 have := hm.sets key b T0 A hl off v.cells.toList
 rw [hA] at this
 exact k _ this
theorem wl_call (he : EV a n d env) (hm : MM S w0 w L) (hd : op.dst.all (· < n) = true) (hw : Region.wanted op (yielded ops a.tmps) = true) (f : FuncId) (args : Array Value) (hr : (execOp a.eval op).run P w = .ok (.enter f args) w) (v : Value)
 (hc : Calls P f args w fun e w' => e = .returned v ∧ Below w.heap.size w w')
 (k : ∀ a' w', EV a' n d (putE env op.dst v) → MM S w0 w' L → wpList P ops Q rest a' w') : wpList P ops Q (op :: rest) a w := by
 unfold wpList
 rw [if_pos hw]
 refine .inl ?_
 unfold Oper.wp
 rw [hr]
 refine hc.mono ?_
 rintro e w' ⟨rfl, hb⟩
 exact k _ _ (he.putO _ _ hd) (hm.kb (KB.of_below hb))
theorem rn_build (T : TypeId) (parts : Array (Nat × Operand)) (ho : op.op = .build T parts) (vs : Array (Nat × Value)) (hx : parts.map (fun (i, x) => (i, a.eval x)) = vs) (u : Value) (hr : (Instr.build T vs).run P w = .ok u w) : (execOp a.eval op).run P w = .ok (.value u) w := by
 unfold execOp; simp only [ho, hx, Sem.run_bind, hr]; rfl
end steps
theorem least_ex (p : Nat → Prop) : ∀ m, p m → ∃ m, p m ∧ ∀ k, p k → m ≤ k := by
 intro m
 induction m using Nat.strongRecOn with
 | _ m ih =>
   intro hm
   by_cases h : ∃ k, k < m ∧ p k
   ·obtain ⟨k, hk, hp⟩ := h; exact ih k hk hp
   ·exact ⟨m, hm, fun k hk => by rcases Nat.lt_or_ge k m with h' | h'; exact absurd ⟨k, h', hk⟩ h; exact h'⟩
noncomputable def leastOf (p : Nat → Prop) : Nat := by
 classical
 exact if h : ∃ m, p m then Classical.choose (least_ex p h.choose h.choose_spec) else 0
theorem leastOf_spec {p : Nat → Prop} (h : ∃ m, p m) : p (leastOf p) ∧ ∀ k, p k → leastOf p ≤ k := by
 unfold leastOf
 rw [dif_pos h]
 exact Classical.choose_spec (least_ex p h.choose h.choose_spec)
section codes
variable {P : Program} {Q : Exit → Act → World → Prop} {a : Act} {w : World} {n : Nat} {d : List Deferred} {env : List (Nat × Value)}
theorem wp_seqR {id : Nat} {l : List Oper} {y : Code} (h : wpList P l.toArray (Exit.then (y.wp P Q) Q) l a w) : (Code.seq (.region id l.toArray false) y).wp P Q a w := wp_seq (wp_region_lit h)
theorem wl_end {ops : Array Oper} {y : Code} (h : y.wp P Q a w) : wpList P ops (Exit.then (y.wp P Q) Q) [] a w := wpList_nil h
theorem then_normal {y : Code} (h : y.wp P Q a w) : Exit.then (y.wp P Q) Q .normal a w := h
theorem in_normal {id : Nat} (h : Q .normal a w) : Exit.inBlock id Q .normal a w := h
theorem exit_here {id : Nat} (h : Q .normal a w) : Exit.inBlock id Q (.exit id) a w := by simp only [Exit.inBlock, if_true]; exact h
theorem exit_then {K : Act → World → Prop} {id : Nat} (h : Q (.exit id) a w) : Exit.then K Q (.exit id) a w := h
theorem exit_out {id id' : Nat} (hne : id' ≠ id) (h : Q (.exit id') a w) : Exit.inBlock id Q (.exit id') a w := by simp only [Exit.inBlock, if_neg hne]; exact h
theorem ret_then {K : Act → World → Prop} (h : Q .ret a w) : Exit.then K Q .ret a w := h
theorem ret_in {id : Nat} (h : Q .ret a w) : Exit.inBlock id Q .ret a w := h
theorem wp_condT {he : EV a n d env} {t : Nat} {x y : Code} (hl : env.lookup t = some (.bool true)) (h : x.wp P Q a w) : (Code.cond (.tmp t) x y).wp P Q a w := wp_cond_true (he.tmp t _ hl) h
theorem wp_condF {he : EV a n d env} {t : Nat} {x y : Code} (hl : env.lookup t = some (.bool false)) (h : y.wp P Q a w) : (Code.cond (.tmp t) x y).wp P Q a w := wp_cond_false (he.tmp t _ hl) h
theorem wp_loopN {c : Code} (I : Nat → Act → World → Prop) (h0 : ∃ m, I m a w) (round : ∀ m a w, I m a w → c.wp P (Exit.then (fun a' w' => ∃ m', m' < m ∧ I m' a' w') Q) a w) : (Code.loop c).wp P Q a w := by
 refine wp_loop (fun a w => ∃ m, I m a w) (fun a w => leastOf fun m => I m a w) h0 ?_
 intro a w hI
 refine Code.wp_mono ?_ (round _ a w (leastOf_spec hI).1)
 intro e a' w' hq
 cases e with
 | normal =>
   obtain ⟨m', hlt, hI'⟩ := hq
   exact ⟨⟨m', hI'⟩, Nat.lt_of_le_of_lt ((leastOf_spec ⟨m', hI'⟩).2 m' hI') hlt⟩
 | _ => exact hq
end codes
theorem pmap1 {f : Operand → Value} {i : Nat} {x : Operand} {u : Value} (h : f x = u) : #[(i, x)].map (fun (p : Nat × Operand) => (p.1, f p.2)) = #[(i, u)] := by simp [h]
theorem pmap2 {f : Operand → Value} {i j : Nat} {x y : Operand} {u v : Value} (h : f x = u) (h2 : f y = v) : #[(i, x), (j, y)].map (fun (p : Nat × Operand) => (p.1, f p.2)) = #[(i, u), (j, v)] := by simp [h, h2]
theorem pmap3 {f : Operand → Value} {i j k : Nat} {x y z : Operand} {u v t : Value} (h : f x = u) (h2 : f y = v) (h3 : f z = t) : #[(i, x), (j, y), (k, z)].map (fun (p : Nat × Operand) => (p.1, f p.2)) = #[(i, u), (j, v), (k, t)] := by simp [h, h2, h3]
theorem addw {x y : Int} (h1 : -9223372036854775808 ≤ x + y) (h2 : x + y ≤ 9223372036854775807) : Value.int .i64 (IntKind.i64.wrap (x + y)) = .int .i64 (x + y) := by rw [IntKind.wrap_i64]; congr 1; omega
theorem subw {x y : Int} (h1 : -9223372036854775808 ≤ x - y) (h2 : x - y ≤ 9223372036854775807) : Value.int .i64 (IntKind.i64.wrap (x - y)) = .int .i64 (x - y) := by rw [IntKind.wrap_i64]; congr 1; omega
end Go.Proofs.Ytkaekiodjjhjkaa
namespace Go.Proofs.Ytkaekiodjjhjkaa
open Go.RowKit
def EnvOk (l : Array Value) : List (Nat × Value) → Prop
 | [] => True
 | (t, v) :: r => l[t]? = some v ∧ EnvOk l r
theorem EnvOk.mem {l : Array Value} : ∀ {env : List (Nat × Value)}, EnvOk l env → ∀ p ∈ env, l[p.1]? = some p.2
 | [], _, _, hp => by simp at hp
 | (t, v) :: r, h, p, hp => by
   rcases List.mem_cons.1 hp with rfl | hp
   ·exact h.1
   ·exact EnvOk.mem h.2 p hp
theorem calls_begin {P : Program} {f : FuncId} {fn : Func} {c : Code} {args : Array Value} {w : World} {R : Ending → World → Prop} (hf : P.funcs[f]? = some fn) (hb : fn.body = some c)
 (n : Nat) (hn : fn.ntmps = n) (hsz : args.size ≤ n) (env : List (Nat × Value)) (henv : EnvOk args env)
 (h : ∀ a, EV a n [] env → MM [] w w [] → c.wp P (bodyPost P fn R) a w) : Calls P f args w R := by
 refine calls_of_wp hf hb (h _ (EV.begin _ _ _ (by simp; omega) env fun p hp => ?_) (MM.nil w))
 have := henv.mem p hp
 have hlt : p.1 < args.size := by
  rcases Nat.lt_or_ge p.1 args.size with h | h
  ·exact h
  ·simp [Array.getElem?_eq_none h] at this
 rw [Array.getElem?_append_left hlt]; exact this
theorem map0 (f : Operand → Value) : (#[] : Array Operand).map f = #[] := by simp
theorem map1 {f : Operand → Value} {x : Operand} {u : Value} (h : f x = u) : #[x].map f = #[u] := by simp [h]
theorem map2 {f : Operand → Value} {x y : Operand} {u v : Value} (h : f x = u) (h2 : f y = v) : #[x, y].map f = #[u, v] := by simp [h, h2]
section
variable {P : Program} {op : Oper} {a : Act} {w w0 : World} {S : List Nat} {L : List (Nat × Ent)} {n : Nat} {d : List Deferred} {env : List (Nat × Value)} {fn : Func}
theorem enter_call (cal : Operand) (x : Array Operand) (tys : Array TypeId) (ho : op.op = .call { callee := .value cal, args := x, argTypes := tys }) (f : FuncId) (first cap : Array Value) (hcal : a.eval cal = .func (.func f) first cap)
 (args0 : Array Value) (hx : x.map a.eval = args0) (args : Array Value) (hargs : first ++ args0 ++ cap = args) (hf : ∀ args w, (callFunc f args).run P w = .ok (.enter f args) w) : (execOp a.eval op).run P w = .ok (.enter f args) w := by
 unfold execOp
 simp only [ho, resolve, hcal, hx, Deferred.ofValue, Sem.run_bind, Sem.run_pure, Result.andThen_ok, invoke, hargs, hf]
theorem results_cell (he : EV a n d env) (hm : MM S w0 w L) (t : Tmp) (T : TypeId) (hres : fn.results = #[.cell t T]) (b : Nat) (hl : env.lookup t = some (.pointer (some ⟨b, 0, none⟩))) (key : Nat) {o : Bool} {T0 : TypeId} {A : Array Value}
 (hk : L.lookup key = some ⟨o, b, T0, A⟩) (m : Nat) (hT : AggT P T m) (hz : A.size = m) : (results fn a.tmps).run P w = .ok (.agg A) w := by
 have hb := hm.has key _ hk
 have hr := World.rangeAt_of_block (w := w) (b := b) (C := A) (t := T0) (fr := (0, 0)) hb 0 m
 have hC : A.extract 0 (0 + m) = A := by rw [Nat.zero_add, ← hz]; exact Array.extract_size
 have hll : (loadCells ⟨b, 0, none⟩ m).run P w = .ok A w := by
  have := run_loadCells_list (P := P) w ⟨b, 0, none⟩ (A.extract 0 (0 + m)).toList (fun j v hv => by rw [Addr.add_mid]; exact hr j v hv)
  rw [hC] at this
  simpa [hz] using this
 simp only [results, hres]
 simp [he.has t _ hl, he.at t _ hl, asAddr, loadVar, Sem.run_bind, hT.agg, hT.size, hll, Result.andThen]
theorem results_tmp (he : EV a n d env) (t : Tmp) (hres : fn.results = #[.tmp t]) (v : Value) (hl : env.lookup t = some v) : (results fn a.tmps).run P w = .ok v w := by
 simp only [results, hres]
 simp [he.has t _ hl, he.at t _ hl, Sem.run_bind, Result.andThen]
theorem results_tmp2 (he : EV a n d env) (t u : Tmp) (hres : fn.results = #[.tmp t, .tmp u]) (v x : Value) (hl : env.lookup t = some v) (hl2 : env.lookup u = some x) : (results fn a.tmps).run P w = .ok (.tuple #[v, x]) w := by
 simp only [results, hres]
 simp [he.has t _ hl, he.at t _ hl, he.has u _ hl2, he.at u _ hl2, Sem.run_bind, Result.andThen]
theorem results_cell_t (he : EV a n d env) (hm : MM S w0 w L) (t : Tmp) (T : TypeId) (u : Tmp) (hres : fn.results = #[.cell t T, .tmp u]) (b : Nat) (hl : env.lookup t = some (.pointer (some ⟨b, 0, none⟩))) (key : Nat) {o : Bool} {T0 : TypeId} {A : Array Value}
 (hk : L.lookup key = some ⟨o, b, T0, A⟩) (m : Nat) (hT : AggT P T m) (hz : A.size = m) (v : Value) (hu : env.lookup u = some v) : (results fn a.tmps).run P w = .ok (.tuple #[.agg A, v]) w := by
 have hb := hm.has key _ hk
 have hr := World.rangeAt_of_block (w := w) (b := b) (C := A) (t := T0) (fr := (0, 0)) hb 0 m
 have hC : A.extract 0 (0 + m) = A := by rw [Nat.zero_add, ← hz]; exact Array.extract_size
 have hll : (loadCells ⟨b, 0, none⟩ m).run P w = .ok A w := by
  have := run_loadCells_list (P := P) w ⟨b, 0, none⟩ (A.extract 0 (0 + m)).toList (fun j v hv => by rw [Addr.add_mid]; exact hr j v hv)
  rw [hC] at this
  simpa [hz] using this
 rw [results_cell_tmp hres]
 simp [he.has t _ hl, he.at t _ hl, he.at u _ hu, asAddr, loadVar, Sem.run_bind, hT.agg, hT.size, hll, Result.andThen]
theorem results_cell_c (he : EV a n d env) (hm : MM S w0 w L) (t : Tmp) (T : TypeId) (u : Tmp) (U : TypeId) (hres : fn.results = #[.cell t T, .cell u U]) (b : Nat) (hl : env.lookup t = some (.pointer (some ⟨b, 0, none⟩))) (key : Nat) {o : Bool} {T0 : TypeId} {A : Array Value}
 (hk : L.lookup key = some ⟨o, b, T0, A⟩) (m : Nat) (hT : AggT P T m) (hz : A.size = m) (b2 : Nat) (hl2 : env.lookup u = some (.pointer (some ⟨b2, 0, none⟩))) (key2 : Nat) {o2 : Bool} {T2 : TypeId} {A2 : Array Value}
 (hk2 : L.lookup key2 = some ⟨o2, b2, T2, A2⟩) (m2 : Nat) (hT2 : AggT P U m2) (hz2 : A2.size = m2) : (results fn a.tmps).run P w = .ok (.tuple #[.agg A, .agg A2]) w := by
 have go : ∀ (b : Nat) (T0 : TypeId) (A : Array Value) (m : Nat), BX w b T0 A → A.size = m → (loadCells ⟨b, 0, none⟩ m).run P w = .ok A w := by
  intro b T0 A m hb hz
  have hr := World.rangeAt_of_block (w := w) (b := b) (C := A) (t := T0) (fr := (0, 0)) hb 0 m
  have hC : A.extract 0 (0 + m) = A := by rw [Nat.zero_add, ← hz]; exact Array.extract_size
  have := run_loadCells_list (P := P) w ⟨b, 0, none⟩ (A.extract 0 (0 + m)).toList (fun j v hv => by rw [Addr.add_mid]; exact hr j v hv)
  rw [hC] at this
  simpa [hz] using this
 simp only [results, hres]
 simp [he.has t _ hl, he.at t _ hl, he.has u _ hl2, he.at u _ hl2, asAddr, loadVar, Sem.run_bind, hT.agg, hT.size, hT2.agg, hT2.size, go _ _ _ _ (hm.has key _ hk) hz, go _ _ _ _ (hm.has key2 _ hk2) hz2, Result.andThen]
end
theorem callsV {P : Program} {f : FuncId} {args : Array Value} {w : World} {u v : Value} (h : u = v) (c : Calls P f args w fun e w' => e = .returned u ∧ Below w.heap.size w w') : Calls P f args w fun e w' => e = .returned v ∧ Below w.heap.size w w' := h ▸ c
theorem callsS {P : Program} {f : FuncId} {args : Array Value} {w : World} {u : Value} (c : Calls P f args w fun e w' => e = .returned u ∧ w' = w) : Calls P f args w fun e w' => e = .returned u ∧ Below w.heap.size w w' :=
 c.mono fun e w' ⟨h1, h2⟩ => ⟨h1, h2 ▸ Below.refl _ _⟩
end Go.Proofs.Ytkaekiodjjhjkaa
namespace Go.Proofs.Ytkaekiodjjhjkaa
open Go.RowKit
def SubL (L : List (Nat × Ent)) : List (Nat × Ent) → Prop
 | [] => True
 | (k, e) :: r => L.lookup k = some e ∧ SubL L r
theorem SubL.sub {L : List (Nat × Ent)} : ∀ {L' : List (Nat × Ent)}, SubL L L' → ∀ k e, L'.lookup k = some e → L.lookup k = some e
 | [], _, k, e, h => by simp at h
 | (j, f) :: r, hs, k, e, h => by
   rw [lk] at h
   split at h
   ·rename_i hk; subst hk; cases h; exact hs.1
   ·exact SubL.sub hs.2 k e h
theorem MM.sub {S : List Nat} {w0 w : World} {L : List (Nat × Ent)} (h : MM S w0 w L) (L' : List (Nat × Ent)) (hs : SubL L L') : MM S w0 w L' :=
 ⟨h.keep, fun k e hk => h.has k e (hs.sub k e hk), fun k e hk => h.own k e (hs.sub k e hk), fun j k e f hj hk => h.apart j k e f (hs.sub j e hj) (hs.sub k f hk)⟩
theorem MM.sb {S : List Nat} {w0 w : World} {L L' : List (Nat × Ent)} (h : MM S w0 w L) (hs : SubL L L' := by (repeat refine ⟨rfl, ?_⟩); trivial) : MM S w0 w L' := h.sub L' hs
theorem MM.drew {S : List Nat} {w0 w : World} {L : List (Nat × Ent)} (h : MM S w0 w L) : MM S w0 w.drew L :=
 ⟨⟨h.keep.os, h.keep.tape, h.keep.output, h.keep.size, h.keep.block⟩, h.has, h.own, h.apart⟩
section
variable {P : Program} {ops : Array Oper} {Q : Exit → Act → World → Prop} {SS : World → Prop} {a : Act} {w w0 : World} {S : List Nat} {L Ls : List (Nat × Ent)}
 {n : Nat} {d : List Deferred} {env : List (Nat × Value)} {fuel : Nat} {listed : Array Bool}
theorem wh_begin {id : Nat} (hx : P.follows .mixedOrders = true) (hm : MM S w0 w L) (Ls : List (Nat × Ent)) (hs : SubL L Ls)
 (k : ∀ w', MM S w0 w' L → wpAnyH P .any ops Q (fun w' => MM S w0 w' Ls) ops.size (Array.replicate ops.size false) a w') : (Code.region id ops true).wp P Q a w :=
 wp_region_held_drew (S := fun w' => MM S w0 w' Ls) hx (hm.drew.sub Ls hs) fun _ => k _ hm.drew
theorem wh_take {i : Nat} {op : Oper} (hi : ops[i]? = some op) (hs : Region.noSelect ops = true) (hf : Region.free .any ops listed i = true) (hr : (Region.ready .any ops listed).contains i = true)
 (hQ : ∀ c a w, Q (.panic c) (a.put op.dst undef) w → Q (.panic c) a w) (hQ2 : ∀ v c a w, Q (.panic c) (a.put op.dst v) w → Q (.panic c) a w) (he : EV a n d env) (hm : MM S w0 w L) (hS : SubL L Ls) (hd : op.dst.all (· < n) = true) (hw : Region.wanted op (yielded ops a.tmps) = true) (v : Value)
 (hy : ∀ w', MM S w0 w' Ls → (execOp a.eval op).run P w' = .ok (.value v) w')
 (k : ∀ a', EV a' n d (putE env op.dst v) → wpAnyH P .any ops Q (fun w' => MM S w0 w' Ls) fuel (listed.setIfInBounds i true) a' w) : wpAnyH P .any ops Q (fun w' => MM S w0 w' Ls) (fuel + 1) listed a w :=
 wpAnyH_take hi hs hf hr (hQ2 v) (Or.inl ⟨hw, hy⟩) (hm.sub Ls hS) (k _ (he.putO _ _ hd))
theorem wh_one {i : Nat} {op : Oper} (hr : Region.ready .any ops listed = [i]) (hi : ops[i]? = some op) (hw : Region.wanted op (yielded ops a.tmps) = true)
 (h : ∀ K : Act → World → Prop, (∀ a w, SS w → wpAnyH P .any ops Q SS fuel (listed.setIfInBounds i true) a w → K a w) → op.wp P a w K Q) : wpAnyH P .any ops Q SS (fuel + 1) listed a w := by
 refine wpAnyH_ready (rs := [i]) hr (by simp) (AllReadyH.cons hi (fun K hK => ?_) AllReadyH.nil)
 rw [if_pos hw]
 exact h K fun a w hS hq => hK.out a w hS fun _ => hq
theorem wh_call {i : Nat} {op : Oper} (hr : Region.ready .any ops listed = [i]) (hi : ops[i]? = some op) (he : EV a n d env) (hm : MM S w0 w L) (hS : SubL L Ls) (hd : op.dst.all (· < n) = true) (hw : Region.wanted op (yielded ops a.tmps) = true)
 (f : FuncId) (args : Array Value) (hrun : (execOp a.eval op).run P w = .ok (.enter f args) w) (v : Value) (hc : Calls P f args w fun e w' => e = .returned v ∧ Below w.heap.size w w')
 (k : ∀ a' w', EV a' n d (putE env op.dst v) → MM S w0 w' L → wpAnyH P .any ops Q (fun w' => MM S w0 w' Ls) fuel (listed.setIfInBounds i true) a' w') : wpAnyH P .any ops Q (fun w' => MM S w0 w' Ls) (fuel + 1) listed a w := by
 refine wh_one hr hi hw fun K hK => ?_
 unfold Oper.wp
 rw [hrun]
 refine hc.mono ?_
 rintro e w' ⟨rfl, hb⟩
 have hm' := hm.kb (KB.of_below hb)
 exact hK _ _ (hm'.sub Ls hS) (k _ _ (he.putO _ _ hd) hm')
theorem wh_pass {i : Nat} {op : Oper} (hr : Region.ready .any ops listed = [i]) (hi : ops[i]? = some op) (he : EV a n d env) (hm : MM S w0 w L) (hS : SubL L Ls) (hd : op.dst.all (· < n) = true) (hw : Region.wanted op (yielded ops a.tmps) = false)
 (k : ∀ a', EV a' n d (putE env op.dst undef) → wpAnyH P .any ops Q (fun w' => MM S w0 w' Ls) fuel (listed.setIfInBounds i true) a' w) : wpAnyH P .any ops Q (fun w' => MM S w0 w' Ls) (fuel + 1) listed a w := by
 refine wpAnyH_ready (rs := [i]) hr (by simp) (AllReadyH.cons hi (fun K hK => ?_) AllReadyH.nil)
 rw [if_neg (by rw [hw]; decide)]
 exact hK.out _ _ (hm.sub Ls hS) fun _ => k _ (he.putO _ _ hd)
theorem wh_store {i : Nat} {op : Oper} (hr : Region.ready .any ops listed = [i]) (hi : ops[i]? = some op) (he : EV a n d env) (hm : MM S w0 w L) (key : Nat) {b : Nat} {T0 : TypeId} {A : Array Value} (hl : L.lookup key = some ⟨true, b, T0, A⟩) (hd : op.dst = none) (hw : Region.wanted op (yielded ops a.tmps) = true) (T : TypeId) (x y : Operand) (ho : op.op = .store T x y) (off : Nat)
 (hx : a.eval x = .pointer (some ⟨b, off, none⟩)) (v : Value) (hy : a.eval y = v) (m : Nat) (hT : ∀ w, (sizeOf T).run P w = .ok m w) (hz : v.cells.size = m) (hc : v.cells.all (·.oneCell') = true) (hin : off + m ≤ A.size) (A' : Array Value) (hA : ovw A off v.cells.toList = A')
 (hS : SubL ((key, ⟨true, b, T0, A'⟩) :: L) Ls)
 (k : ∀ w', MM S w0 w' ((key, ⟨true, b, T0, A'⟩) :: L) → wpAnyH P .any ops Q (fun w' => MM S w0 w' Ls) fuel (listed.setIfInBounds i true) a w') : wpAnyH P .any ops Q (fun w' => MM S w0 w' Ls) (fuel + 1) listed a w := by
 refine wh_one hr hi hw fun K hK => ?_
 unfold Oper.wp
 have hb := hm.has key _ hl
 have hs := run_storeCells_cells (P := P) b off v.cells.toList 0 w
  (fun j hj => by rw [hb.cell]; simp at hj ⊢; omega)
  (fun j hj => hb.frozen _)
  (fun u hu => (Array.all_eq_true_iff_forall_mem.1 hc) u (by simpa using hu))
 simp only [Nat.add_zero] at hs
 have : (execOp a.eval op).run P w = .ok .skip (w.setCells b off v.cells.toList) := by
  unfold execOp
  simp [ho, hx, hy, Instr.storeAt, Instr.sureAddr, storeVar, Sem.run_bind, Sem.run_pure, hT, hz, hs]
 rw [this]
 show K (a.put op.dst undef) _
 rw [hd]
 have hm' := hm.sets key b T0 A hl off v.cells.toList
 rw [hA] at hm'
 exact hK _ _ (hm'.sub Ls hS) (k _ hm')
end
end Go.Proofs.Ytkaekiodjjhjkaa
namespace Go.Proofs.Ytkaekiodjjhjkaa
open Go.RowKit
def EvSub (env : List (Nat × Value)) : List (Nat × Value) → Prop
 | [] => True
 | (t, v) :: r => env.lookup t = some v ∧ EvSub env r
theorem EvSub.sub {env : List (Nat × Value)} : ∀ {env' : List (Nat × Value)}, EvSub env env' → ∀ t v, env'.lookup t = some v → env.lookup t = some v
 | [], _, t, v, h => by simp at h
 | (s, u) :: r, hs, t, v, h => by
   rw [List.lookup_cons] at h
   by_cases e : t = s
   ·subst e; simp at h; subst h; exact hs.1
   ·rw [show (t == s) = false by simpa using e] at h
    exact EvSub.sub hs.2 t v h
theorem EV.sub {a : Act} {n : Nat} {d : List Deferred} {env : List (Nat × Value)} (h : EV a n d env) (env' : List (Nat × Value)) (hs : EvSub env env') : EV a n d env' :=
 ⟨h.size, h.defers, fun t v hl => h.has t v (hs.sub t v hl)⟩
structure Rw (cur : Array Value) (n cap size : Nat) (xs : List Value) : Prop where
 le : n ≤ cap
 max : cap ≤ maxLen
 room : cur.size = cap * size
 is : cur.toList.take (n * size) = xs
theorem EV.sb {a : Act} {n : Nat} {d : List Deferred} {env env' : List (Nat × Value)} (h : EV a n d env) (hs : EvSub env env' := by (repeat refine ⟨rfl, ?_⟩); trivial) : EV a n d env' := h.sub env' hs
theorem Rw.len {cur : Array Value} {n cap size : Nat} {xs : List Value} (h : Rw cur n cap size xs) : xs.length = n * size := by
 rw [← h.is, List.length_take, Array.length_toList, h.room]
 exact Nat.min_eq_left (Nat.mul_le_mul_right _ h.le)
theorem Rw.get {cur : Array Value} {n cap size : Nat} {xs : List Value} (h : Rw cur n cap size xs) (j : Nat) (v : Value) (hv : xs[j]? = some v) : cur[j]? = some v := by
 rw [← h.is, List.getElem?_take] at hv
 split at hv
 ·simpa using hv
 ·cases hv
theorem MM.setRow {S : List Nat} {w0 w : World} {L : List (Nat × Ent)} (h : MM S w0 w L) (key : Nat) (b : Nat) (T : TypeId) (A : Array Value) (hl : L.lookup key = some ⟨true, b, T, A⟩) (A' : Array Value) :
 MM S w0 (w.setRow b A') ((key, ⟨true, b, T, A'⟩) :: L) := by
 have hb := h.has key _ hl
 exact h.kb1 key b T A A' hl ⟨rfl, rfl, rfl, by simp, fun k _ hk => setRow_other w b k _ (fun e => hk (by simp [e]))⟩ (setRow_heap w b A A' T _ hb)
section
variable {P : Program} {ops : Array Oper} {Q : Exit → Act → World → Prop} {rest : List Oper} {op : Oper} {a : Act} {w w0 : World} {S : List Nat} {L : List (Nat × Ent)}
 {n : Nat} {d : List Deferred} {env : List (Nat × Value)}
theorem rn_builtin (x : Array Operand) (tys : Array TypeId) (b : Builtin) (ho : op.op = .call { callee := .builtin b, args := x, argTypes := tys }) (args : Array Value) (hx : x.map a.eval = args) (u : Value)
 (hr : (builtin b tys op.type (x.map fun | .const _ => true | _ => false) args).run P w = .ok (.value u) w) : (execOp a.eval op).run P w = .ok (.value u) w := by
 unfold execOp; simp only [ho, resolve, hx, Sem.run_bind, Sem.run_pure, Result.andThen_ok, invoke]; exact hr
theorem wl_buildSlice (he : EV a n d env) (hm : MM S w0 w L) (key : Nat) (hk : L.lookup key = none) (hd : op.dst.all (· < n) = true) (hw : Region.wanted op (yielded ops a.tmps) = true) (T : TypeId) (len : Nat) (parts : Array (Nat × Operand)) (ho : op.op = .buildSlice T len parts) (vs : Array (Nat × Value))
 (hx : parts.map (fun (i, x) => (i, a.eval x)) = vs) (e : TypeId) (A : Array Value) (hr : (Instr.buildSlice T len vs).run P w = .ok (.slice (some ⟨w.heap.size, 0, none⟩) len len) (w.alloc (.cells A e)))
 (k : ∀ a' w' b, EV a' n d (putE env op.dst (.slice (some ⟨b, 0, none⟩) len len)) → MM S w0 w' ((key, ⟨true, b, e, A⟩) :: L) → wpList P ops Q rest a' w') : wpList P ops Q (op :: rest) a w := by
 unfold wpList
 rw [if_pos hw]
 refine .inl ?_
 unfold Oper.wp
 have : (execOp a.eval op).run P w = .ok (.value (.slice (some ⟨w.heap.size, 0, none⟩) len len)) (w.alloc (.cells A e)) := by
  unfold execOp
  simp only [ho, hx, Sem.run_bind, hr]; rfl
 rw [this]
 exact k _ _ _ (he.putO _ _ hd) (hm.alloc key e A hk)
structure ElT (P : Program) (t e : TypeId) (z : Value) (size bytes : Nat) : Prop where
 und : P.underlying t = some (.slice e)
 info : (P.info? e).map (fun i => (i.zero, i.size, i.bytes)) = some (some z, size, bytes)
 zs : z.cells.size = size
 pos : 0 < size
theorem ElT.get {P : Program} {t e : TypeId} {z : Value} {size bytes : Nat} (E : ElT P t e z size bytes) : ∃ i, P.info? e = some i ∧ i.zero = some z ∧ i.size = size ∧ i.bytes = bytes := by
 have := E.info
 cases h : P.info? e with
 | none => simp [h] at this
 | some i =>
   rw [h] at this
   simp only [Option.map_some, Option.some.injEq, Prod.mk.injEq] at this
   exact ⟨i, rfl, this.1, this.2.1, this.2.2⟩
theorem run_app {t ty e : TypeId} {z : Value} {size bytes : Nat} (E : ElT P t e z size bytes) (g cap k : Nat) (cur : Array Value) (xs : List Value) (hb : BX w g e cur) (hrw : Rw cur k cap size xs)
 (ad : Addr) (m c : Nat) (news : List Value) (hl : news.length = m * size) (hnews : ∀ j u, news[j]? = some u → w.cell? (ad.add j) = some u) (h1 : ∀ u ∈ news, u.oneCell' = true)
 (h63 : k + m ≤ maxLen) (hbytes : (k + m) * bytes ≤ 140737488355328) :
 (∃ cur', Rw cur' (k + m) cap size (xs ++ news) ∧ (Builtin.append_ #[t, t] ty #[.slice (some ⟨g, 0, none⟩) k cap, .slice (some ad) m c]).run P w = .ok (.slice (some ⟨g, 0, none⟩) (k + m) cap) (w.setRow g cur')) ∨
 (∃ cap' cur', Rw cur' (k + m) cap' size (xs ++ news) ∧ (Builtin.append_ #[t, t] ty #[.slice (some ⟨g, 0, none⟩) k cap, .slice (some ad) m c]).run P w = .ok (.slice (some ⟨w.heap.size, 0, none⟩) (k + m) cap') (w.drew.alloc (.cells cur' e))) := by
 obtain ⟨i, hi, hz, rfl, rfl⟩ := E.get
 have ht := E.und
 have hzs := E.zs
 have hsz := E.pos
 have hlen : (xs ++ news).length = (k + m) * i.size := by rw [List.length_append, hrw.len, hl, Nat.add_mul]
 have hsmall : k + m ≤ 9223372036854775807 := by simp only [maxLen] at h63; omega
 by_cases hroom : k + m ≤ cap
 ·left
  have hfit : k * i.size + news.length ≤ cur.size := by rw [hl, hrw.room, ← Nat.add_mul]; exact Nat.mul_le_mul_right _ hroom
  refine ⟨_, ⟨hroom, hrw.max, ?_, ?_⟩, run_append_room (P := P) w t ty e i ht hi g k cap cur hb ad m c news hl hnews h1 hroom hfit⟩
  ·have := hrw.room
   simp only [List.size_toArray, List.length_append, List.length_take, List.length_drop, Array.length_toList]
   omega
  ·simp only
   rw [hrw.is, ← hlen]
   exact List.take_left
 ·right
  have hge := grownCap_ge w (k + m) cap e
  have hcm : grownCap w (k + m) cap e ≤ maxLen := grownCap_le_maxLen w (k + m) cap e h63
  have holds : ∀ j u, xs[j]? = some u → w.cell? ((⟨g, 0, none⟩ : Addr).add j) = some u := fun j u hu => by
   rw [Addr.add_mid, Nat.zero_add, hb.cell]; exact hrw.get j u hu
  refine ⟨_, _, ⟨hge, hcm, ?_, ?_⟩, run_append_grow (P := P) w t ty e i z ht hi hz ⟨g, 0, none⟩ k cap xs hrw.len holds ad m c news hl hnews (by omega) (by omega) (growslice_fits (by omega) hbytes)⟩
  ·simp only [Array.size_append, List.size_toArray, size_zeroCells, hzs, hrw.len, hl, ← Nat.add_mul]
   congr 1
   omega
  ·simp only [Array.toList_append, List.append_assoc]
   rw [← List.append_assoc, ← hlen]
   exact List.take_left
theorem run_app0 {t ty e : TypeId} {z : Value} {size bytes : Nat} (E : ElT P t e z size bytes)
 (ad : Addr) (m c : Nat) (news : List Value) (hm0 : 0 < m) (hl : news.length = m * size) (hnews : ∀ j u, news[j]? = some u → w.cell? (ad.add j) = some u)
 (h63 : m ≤ maxLen) (hbytes : m * bytes ≤ 140737488355328) :
 ∃ cap' cur', Rw cur' m cap' size news ∧ (Builtin.append_ #[t, t] ty #[.slice none 0 0, .slice (some ad) m c]).run P w = .ok (.slice (some ⟨w.heap.size, 0, none⟩) m cap') (w.drew.alloc (.cells cur' e)) := by
 obtain ⟨i, hi, hz, rfl, rfl⟩ := E.get
 have ht := E.und
 have hzs := E.zs
 have hsz := E.pos
 have hsmall : m ≤ 9223372036854775807 := by simp only [maxLen] at h63; omega
 have hge := grownCap_ge w m 0 e
 have hcm : grownCap w m 0 e ≤ maxLen := grownCap_le_maxLen w m 0 e h63
 refine ⟨_, _, ⟨hge, hcm, ?_, ?_⟩, run_append_nil (P := P) w t ty e i z ht hi hz ad m c news hl hnews (by omega) (by omega) (by omega)⟩
 ·simp only [Array.size_append, List.size_toArray, size_zeroCells, hzs, hl]
  rw [← Nat.add_mul]
  congr 1
  omega
 ·simp only [Array.toList_append]
  rw [← hl]
  exact List.take_left
theorem wl_append (he : EV a n d env) (hm : MM S w0 w L) (key : Nat) {g : Nat} {e : TypeId} {cur : Array Value} (hlk : L.lookup key = some ⟨true, g, e, cur⟩) (hd : op.dst.all (· < n) = true) (hw : Region.wanted op (yielded ops a.tmps) = true) (s x : Operand) (t : TypeId)
 (ho : op.op = .call { callee := .builtin .append, args := #[s, x], argTypes := #[t, t] }) {z : Value} {size bytes : Nat} (E : ElT P t e z size bytes) {k cap : Nat} (hs : a.eval s = .slice (some ⟨g, 0, none⟩) k cap) {xs : List Value} (hrw : Rw cur k cap size xs)
 (ad : Addr) (m c : Nat) (hx : a.eval x = .slice (some ad) m c) (news : List Value) (hl : news.length = m * size) (hnews : ∀ j u, news[j]? = some u → w.cell? (ad.add j) = some u) (h1 : ∀ u ∈ news, u.oneCell' = true)
 (h63 : k + m ≤ maxLen) (hbytes : (k + m) * bytes ≤ 140737488355328)
 (kk : ∀ a' w' g' cap' cur', EV a' n d (putE env op.dst (.slice (some ⟨g', 0, none⟩) (k + m) cap')) → MM S w0 w' ((key, ⟨true, g', e, cur'⟩) :: L) → Rw cur' (k + m) cap' size (xs ++ news) → wpList P ops Q rest a' w') : wpList P ops Q (op :: rest) a w := by
 unfold wpList
 rw [if_pos hw]
 refine .inl ?_
 have ex : ∀ v w', (Builtin.append_ #[t, t] op.type #[.slice (some ⟨g, 0, none⟩) k cap, .slice (some ad) m c]).run P w = .ok v w' → (execOp a.eval op).run P w = .ok (.value v) w' := fun v w' hr => by
  unfold execOp
  simp only [ho, resolve, invoke, builtin, Sem.run_bind, Sem.run_pure, Result.andThen_ok, List.map_toArray, List.map_cons, List.map_nil, hs, hx, hr]
 unfold Oper.wp
 rcases run_app (ty := op.type) E g cap k cur xs (hm.has key _ hlk) hrw ad m c news hl hnews h1 h63 hbytes with ⟨cur', hrw', hr⟩ | ⟨cap', cur', hrw', hr⟩
 ·rw [ex _ _ hr]
  exact kk _ _ _ _ _ (he.putO _ _ hd) (hm.setRow key g e cur hlk cur') hrw'
 ·rw [ex _ _ hr]
  refine kk _ _ _ _ _ (he.putO _ _ hd) ?_ hrw'
  have h0 := hm.drew
  have hs' : w.drew.heap.size = w.heap.size := rfl
  have old : ∀ k, k < w.heap.size → (w.drew.alloc (.cells cur' e)).heap[k]? = w.heap[k]? := fun k hk => Below.heap_alloc w.drew _ _ hk
  refine ⟨⟨h0.keep.os, h0.keep.tape, h0.keep.output, by simp; exact Nat.le_succ_of_le h0.keep.size, fun k hk hS => (old k (Nat.lt_of_lt_of_le hk h0.keep.size)).trans (h0.keep.block k hk hS)⟩, ?_, ?_, ?_⟩
  ·intro k2 e2 hk2
   rw [lk] at hk2
   split at hk2
   ·cases hk2; exact World.alloc_heap_new w.drew _
   ·have := hm.has k2 e2 hk2; exact (old e2.b this.lt).trans this
  ·intro k2 e2 hk2 ho2
   rw [lk] at hk2
   split at hk2
   ·cases hk2; exact .inl hm.keep.size
   ·exact hm.own k2 e2 hk2 ho2
  ·intro j2 k2 e2 f2 hj2 hk2 hne ho2
   rw [lk] at hj2 hk2
   split at hj2 <;> split at hk2
   ·rename_i q1 q2; exact absurd (q1.trans q2.symm) hne
   ·cases hj2; have := (hm.has k2 f2 hk2).lt; simp; omega
   ·cases hk2; have := (hm.has j2 e2 hj2).lt; simp; omega
   ·exact hm.apart j2 k2 e2 f2 hj2 hk2 hne ho2
theorem wl_append0 (he : EV a n d env) (hm : MM S w0 w L) (key : Nat) (hkey : L.lookup key = none) (hd : op.dst.all (· < n) = true) (hw : Region.wanted op (yielded ops a.tmps) = true) (s x : Operand) (t : TypeId)
 (ho : op.op = .call { callee := .builtin .append, args := #[s, x], argTypes := #[t, t] }) {e : TypeId} {z : Value} {size bytes : Nat} (E : ElT P t e z size bytes) (hs : a.eval s = .slice none 0 0)
 (ad : Addr) (m c : Nat) (hx : a.eval x = .slice (some ad) m c) (hm0 : 0 < m) (news : List Value) (hl : news.length = m * size) (hnews : ∀ j u, news[j]? = some u → w.cell? (ad.add j) = some u)
 (h63 : m ≤ maxLen) (hbytes : m * bytes ≤ 140737488355328)
 (kk : ∀ a' w' g' cap' cur', EV a' n d (putE env op.dst (.slice (some ⟨g', 0, none⟩) m cap')) → MM S w0 w' ((key, ⟨true, g', e, cur'⟩) :: L) → Rw cur' m cap' size news → wpList P ops Q rest a' w') : wpList P ops Q (op :: rest) a w := by
 unfold wpList
 rw [if_pos hw]
 refine .inl ?_
 unfold Oper.wp
 obtain ⟨cap', cur', hrw', hr⟩ := run_app0 (w := w) (ty := op.type) E ad m c news hm0 hl hnews h63 hbytes
 have ex : (execOp a.eval op).run P w = .ok (.value (.slice (some ⟨w.heap.size, 0, none⟩) m cap')) (w.drew.alloc (.cells cur' e)) := by
  unfold execOp
  simp only [ho, resolve, invoke, builtin, Sem.run_bind, Sem.run_pure, Result.andThen_ok, List.map_toArray, List.map_cons, List.map_nil, hs, hx, hr]
 rw [ex]
 exact kk _ _ _ _ _ (he.putO _ _ hd) (hm.drew.alloc key e cur' hkey) hrw'
def RowAt (w : World) (b p n sz : Nat) (f : Nat → Array Value) : Prop := b < w.heap.size ∧ ∀ i, i < n → ∀ j, j < sz → w.cell? ⟨b, p + i * sz + j, none⟩ = (f i)[j]? ∧ j < (f i).size
theorem RowAt.kb {w w' : World} {b p n sz : Nat} {f : Nat → Array Value} (h : RowAt w b p n sz f) {S : List Nat} (k : KB S w w') (hb : b ∉ S) : RowAt w' b p n sz f :=
 ⟨Nat.lt_of_lt_of_le h.1 k.size, fun i hi j hj => by rw [World.cell?_of_block (k.block b h.1 hb)]; exact h.2 i hi j hj⟩
theorem rn_row1 (hm : MM S w0 w L) {b p m sz : Nat} {f : Nat → Array Value} (hr : RowAt w0 b p m sz f) (hb : b ∉ S) (i : Nat) (hi : i < m) (j : Nat) (hj : j < sz) (T : TypeId) (x : Operand) (ho : op.op = .load T x)
 (hx : a.eval x = .pointer (some ⟨b, p + i * sz + j, none⟩)) (hT : OneT P T) (v : Value) (hv : (f i)[j]? = some v) : (execOp a.eval op).run P w = .ok (.value v) w := by
 have hc : w.cell? ⟨b, p + i * sz + j, none⟩ = some v := (((hr.kb hm.keep hb).2 i hi j hj).1).trans hv
 unfold execOp
 simp only [ho, hx, Instr.loadAt, Instr.sureAddr, loadVar, Sem.run_bind, Sem.run_pure, Result.andThen_ok, hT.agg, run_load, hc, Bool.false_eq_true, if_false]
theorem rn_rowA (hm : MM S w0 w L) {b p m sz : Nat} {f : Nat → Array Value} (hr : RowAt w0 b p m sz f) (hb : b ∉ S) (i : Nat) (hi : i < m) (T : TypeId) (x : Operand) (ho : op.op = .load T x)
 (hx : a.eval x = .pointer (some ⟨b, p + i * sz, none⟩)) (hT : AggT P T sz) (hz : (f i).size = sz) : (execOp a.eval op).run P w = .ok (.value (.agg (f i))) w := by
 have hr' := hr.kb hm.keep hb
 have hl : (loadCells ⟨b, p + i * sz, none⟩ sz).run P w = .ok (f i) w := by
  have := run_loadCells_list (P := P) w ⟨b, p + i * sz, none⟩ (f i).toList (fun j v hv => by
   rw [Addr.add_mid]
   have hj : j < sz := by
    have := (List.getElem?_eq_some_iff.1 hv).1
    simp at this; omega
   rw [(hr'.2 i hi j hj).1]; simpa using hv)
  simpa [hz] using this
 unfold execOp
 simp only [ho, hx, Instr.loadAt, Instr.sureAddr, loadVar, Sem.run_bind, Sem.run_pure, Result.andThen_ok, hT.agg, hT.size, hl, if_true]
end
theorem ixS {P : Program} {T : TypeId} (el : TypeId) (sz : Nat) (hT : P.underlying T = some (.slice el)) (hs : ∀ w, (sizeOf el).run P w = .ok sz w) (b p n c i : Nat) (hi : i < n) (w : World) :
 (Instr.indexAt T (.slice (some ⟨b, p, none⟩) n c) (.int .i64 (i : Nat))).run P w = .ok (.pointer (some ⟨b, p + i * sz, none⟩)) w := by
 have h1 : (0 : Int) ≤ (i : Int) ∧ (i : Int) < (n : Int) := ⟨by omega, by omega⟩
 simp [Instr.indexAt, asIntOf, underlying, hT, Sem.run_bind, h1, hs, Result.andThen]
 rw [if_pos (by omega)]
 simp [hs, Result.andThen, Addr.add_mid, Sem.run_bind]
theorem addN {i c : Nat} (h : i + c ≤ 9223372036854775807) : Value.int .i64 (IntKind.i64.wrap ((i : Int) + (c : Int))) = .int .i64 ((i + c : Nat) : Int) := by
 rw [show IntKind.i64.wrap ((i : Int) + (c : Int)) = ((i + c : Nat) : Int) by rw [IntKind.wrap_i64]; omega]
end Go.Proofs.Ytkaekiodjjhjkaa
namespace Go.Proofs.Ytkaekiodjjhjkaa
open Go.RowKit
section
variable {P : Program} {op : Oper} {a : Act} {w : World}
theorem rn_sadd (T U : TypeId) (x y : Operand) (ho : op.op = .binOp .add T x y U) (p q : ByteArray) (hx : a.eval x = .string p) (hy : a.eval y = .string q) (h : p.size + q.size ≤ 9223372036854775807) : (execOp a.eval op).run P w = .ok (.value (.string (p ++ q))) w := by
 unfold execOp
 have e1 : (eqGuard .add T x y (.string p) (.string q)).run P w = .ok () w := rfl
 have e2 : (binOp .add T (.string p) (.string q)).run P w = .ok (.string (p ++ q)) w := run_string_add_sum (P := P) w p q h
 simp only [ho, hx, hy, Sem.run_bind, e1, e2, Result.andThen_ok]; rfl
theorem rn_seq (b : BinOp) (hb : b = .eql ∨ b = .neq) (T U : TypeId) (x y : Operand) (ho : op.op = .binOp b T x y U) (p q : ByteArray) (hx : a.eval x = .string p) (hy : a.eval y = .string q) (v : Value)
 (hv : Value.bool (if b = .eql then p.toList == q.toList else !(p.toList == q.toList)) = v) : (execOp a.eval op).run P w = .ok (.value v) w := by
 subst hv
 unfold execOp
 rcases hb with rfl | rfl <;> (simp only [ho, hx, hy, Sem.run_bind]; rfl)
theorem rn_sidx (T : TypeId) (hT : P.underlying T = some .string) (x y : Operand) (ho : op.op = .index T x y) (s : ByteArray) (i : Nat) (hx : a.eval x = .string s) (hy : a.eval y = .int .i64 ((i : Nat) : Int)) (hi : i < s.size) :
 (execOp a.eval op).run P w = .ok (.value (.int .u8 (s[i].toNat : Nat))) w := by
 unfold execOp
 have : (Instr.index T (.string s) (.int .i64 ((i : Nat) : Int))).run P w = .ok (.int .u8 (s[i].toNat : Nat)) w := by
  simp [Instr.index, asIntOf, underlying, hT, Sem.run_bind, Result.andThen, getElem?_pos, hi]
 simp only [ho, hx, hy, Sem.run_bind, this]; rfl
theorem rn_sslice (T : TypeId) (hT : P.underlying T = some .string) (x : Operand) (lo hi : Option Operand) (ho : op.op = .slice T x lo hi none) (s : ByteArray) (l h : Nat) (hx : a.eval x = .string s)
 (hlo : lo.map a.eval = some (.int .i64 ((l : Nat) : Int)) ∨ (lo = none ∧ l = 0)) (hhi : hi.map a.eval = some (.int .i64 ((h : Nat) : Int)) ∨ (hi = none ∧ h = s.size)) (h1 : l ≤ h) (h2 : h ≤ s.size) :
 (execOp a.eval op).run P w = .ok (.value (.string (s.extract l h))) w := by
 unfold execOp
 have : (Instr.sliceAt T (.string s) (lo.map a.eval) (hi.map a.eval) none).run P w = .ok (.string (s.extract l h)) w := by
  have k1 : (l : Int) ≤ (h : Int) := by omega
  have k2 : (h : Int) ≤ (s.size : Int) := by omega
  rcases hlo with e | ⟨rfl, rfl⟩ <;> rcases hhi with e' | ⟨rfl, rfl⟩
  ·rw [e, e']
   simp [Instr.sliceAt, Instr.slice, Instr.sliceBounds, Instr.sliceBound, asIntOf, underlying, hT, Sem.run_bind, Result.andThen, k1, k2, h1, h2]
  ·rw [e]
   simp [Instr.sliceAt, Instr.slice, Instr.sliceBounds, Instr.sliceBound, asIntOf, underlying, hT, Sem.run_bind, Result.andThen, k1, k2, h1, h2]
  ·rw [e']
   simp [Instr.sliceAt, Instr.slice, Instr.sliceBounds, Instr.sliceBound, asIntOf, underlying, hT, Sem.run_bind, Result.andThen, k1, k2, h1, h2]
  ·simp [Instr.sliceAt, Instr.slice, Instr.sliceBounds, Instr.sliceBound, asIntOf, underlying, hT, Sem.run_bind, Result.andThen, k1, k2, h1, h2]
 simp only [ho, hx, Option.map_none, Sem.run_bind, this]; rfl
def byteAt (s : ByteArray) (i : Nat) : Nat := if h : i < s.size then s[i].toNat else 0
theorem byteAt_lt (s : ByteArray) (i : Nat) : byteAt s i < 256 := by
 unfold byteAt
 split
 ·exact UInt8.toNat_lt _
 ·omega
theorem rn_sbyte (T : TypeId) (hT : P.underlying T = some .string) (x y : Operand) (ho : op.op = .index T x y) (s : ByteArray) (i : Nat) (hx : a.eval x = .string s) (hy : a.eval y = .int .i64 ((i : Nat) : Int)) (hi : i < s.size) :
 (execOp a.eval op).run P w = .ok (.value (.int .u8 ((byteAt s i : Nat) : Int))) w := by
 have := rn_sidx (w := w) T hT x y ho s i hx hy hi
 rw [show byteAt s i = s[i].toNat by simp [byteAt, hi]]
 exact this
end
theorem mulN {i c : Nat} (h : i * c ≤ 9223372036854775807) : Value.int .i64 (IntKind.i64.wrap ((i : Int) * (c : Int))) = .int .i64 ((i * c : Nat) : Int) := by
 rw [show IntKind.i64.wrap ((i : Int) * (c : Int)) = ((i * c : Nat) : Int) by rw [IntKind.wrap_i64, ← Int.natCast_mul]; omega]
theorem subN {i c : Nat} (k : IntKind) (h : c ≤ i) (hk : k.wrap ((i - c : Nat) : Int) = ((i - c : Nat) : Int)) : Value.int k (k.wrap ((i : Int) - (c : Int))) = .int k ((i - c : Nat) : Int) := by
 rw [show (i : Int) - (c : Int) = ((i - c : Nat) : Int) by omega, hk]
theorem cvn {n : Nat} (h : n ≤ 9223372036854775807) : Value.int .i64 (IntKind.i64.wrap (n : Int)) = .int .i64 (n : Int) := by
 rw [show IntKind.i64.wrap (n : Int) = (n : Int) by rw [IntKind.wrap_i64]; omega]
end Go.Proofs.Ytkaekiodjjhjkaa
namespace Go.Proofs.Ytkaekiodjjhjkaa
open Go.RowKit
theorem MM.new {S : List Nat} {w0 w w' : World} {L : List (Nat × Ent)} (h : MM S w0 w L) (key : Nat) (b : Nat) (T : TypeId) (A : Array Value) (hk : L.lookup key = none) (hb : Below w.heap.size w w') (hx : BX w' b T A) (hs : w.heap.size ≤ b) : MM S w0 w' ((key, ⟨true, b, T, A⟩) :: L) := by
 have h' := h.kb (KB.of_below hb)
 refine ⟨h'.keep, ?_, ?_, ?_⟩
 ·intro k e hl
  rw [lk] at hl
  split at hl
  ·cases hl; exact hx
  ·exact h'.has k e hl
 ·intro k e hl ho
  rw [lk] at hl
  split at hl
  ·cases hl; exact .inl (Nat.le_trans h.keep.size hs)
  ·exact h.own k e hl ho
 ·intro j k e f hj hk' hne ho
  rw [lk] at hj hk'
  split at hj <;> split at hk'
  ·rename_i h1 h2; exact absurd (h1.trans h2.symm) hne
  ·cases hj; have := (h.has k f hk').lt; show b ≠ f.b; omega
  ·cases hk'; have := (h.has j e hj).lt; show e.b ≠ b; omega
  ·exact h.apart j k e f hj hk' hne ho
theorem Rw.nil (sz : Nat) : Rw (#[] : Array Value) 0 0 sz [] := ⟨Nat.le_refl _, Nat.zero_le _, by simp, by simp⟩
def NewRow {α : Type} (w : World) (v : α → Nat → Value) (T : TypeId) (A : α → Array Value) (Φ : α → Prop) (e : Ending) (w' : World) : Prop :=
 ∃ (x : α) (b : Nat), e = .returned (v x b) ∧ BX w' b T (A x) ∧ Φ x ∧ w.heap.size ≤ b ∧ Below w.heap.size w w'
section
variable {P : Program} {ops : Array Oper} {Q : Exit → Act → World → Prop} {rest : List Oper} {op : Oper} {a : Act} {w w0 : World} {S : List Nat} {L Ls : List (Nat × Ent)}
 {n : Nat} {d : List Deferred} {env : List (Nat × Value)} {fuel : Nat} {listed : Array Bool} {α : Type}
theorem rn_saddZ (T U : TypeId) (x y : Operand) (ho : op.op = .binOp .add T x y U) (p q : ByteArray) (hx : a.eval x = .string p) (hy : a.eval y = .string q) (h : p.size + q.size ≤ 9223372036854775807) (z : ByteArray) (hz : z = p ++ q) : (execOp a.eval op).run P w = .ok (.value (.string z)) w := by
 subst hz; exact rn_sadd T U x y ho p q hx hy h
theorem wl_callN (he : EV a n d env) (hm : MM S w0 w L) (key : Nat) (hk : L.lookup key = none) (hd : op.dst.all (· < n) = true) (hw : Region.wanted op (yielded ops a.tmps) = true) (f : FuncId) (args : Array Value) (hr : (execOp a.eval op).run P w = .ok (.enter f args) w)
 {v : α → Nat → Value} {T : TypeId} {A : α → Array Value} {Φ : α → Prop} (hc : Calls P f args w fun e w' => NewRow w v T A Φ e w')
 (k : ∀ x b a' w', Φ x → EV a' n d (putE env op.dst (v x b)) → MM S w0 w' ((key, ⟨true, b, T, A x⟩) :: L) → wpList P ops Q rest a' w') : wpList P ops Q (op :: rest) a w := by
 unfold wpList
 rw [if_pos hw]
 refine .inl ?_
 unfold Oper.wp
 rw [hr]
 refine hc.mono ?_
 rintro e w' ⟨x, b, rfl, hx, hΦ, hs, hb⟩
 exact k x b _ _ hΦ (he.putO _ _ hd) (hm.new key b T (A x) hk hb hx hs)
def cutQ (I : Act → World → Prop) (Q : Exit → Act → World → Prop) (x : Exit) (a : Act) (w : World) : Prop := match x with
 | .normal => I a w
 | y => Q y a w
theorem rg_cut {c : Code} {a : Act} {w : World} (I : Act → World → Prop) (h : c.wp P (cutQ I Q) a w) (hc : ∀ a w, I a w → Q .normal a w) : c.wp P Q a w :=
 Code.wp_mono (fun e a w hq => by cases e <;> first | exact hc _ _ hq | exact hq) h
theorem st_call {i : Nat} (he : EV a n d env) (hm : MM S w0 w L) (hS : SubL L Ls) (hd : op.dst.all (· < n) = true) (hw : Region.wanted op (yielded ops a.tmps) = true) (f : FuncId) (args : Array Value) (hrun : (execOp a.eval op).run P w = .ok (.enter f args) w) (v : Value)
 (hc : Calls P f args w fun e w' => e = .returned v ∧ Below w.heap.size w w')
 (k : ∀ a' w', EV a' n d (putE env op.dst v) → MM S w0 w' L → wpAnyH P .any ops Q (fun w' => MM S w0 w' Ls) fuel (listed.setIfInBounds i true) a' w') :
 ∀ K' : Act → World → Prop, Shut (∀ a w, MM S w0 w Ls → (MM S w0 w Ls → wpAnyH P .any ops Q (fun w' => MM S w0 w' Ls) fuel (listed.setIfInBounds i true) a w) → K' a w) → if Region.wanted op (yielded ops a.tmps) = true then Oper.wp P op a w K' Q else K' (a.put op.dst undef) w := by
 intro K hK
 rw [if_pos hw]
 unfold Oper.wp
 rw [hrun]
 refine hc.mono ?_
 rintro e w' ⟨rfl, hb⟩
 have hm' := hm.kb (KB.of_below hb)
 exact hK.out _ _ (hm'.sub Ls hS) fun _ => k _ _ (he.putO _ _ hd) hm'
theorem st_alloc {i : Nat} (he : EV a n d env) (hm : MM S w0 w L) (key : Nat) (hk : L.lookup key = none) (hS : SubL L Ls) (hd : op.dst.all (· < n) = true) (hw : Region.wanted op (yielded ops a.tmps) = true) (T : TypeId) (ho : op.op = .alloc T) (z : Value) (hz : ∀ w, (zeroValue T).run P w = .ok z w) (A : Array Value) (hA : z.cells = A)
 (hS2 : ∀ b, SubL ((key, ⟨true, b, T, A⟩) :: L) Ls)
 (k : ∀ a' w' b, EV a' n d (putE env op.dst (.pointer (some ⟨b, 0, none⟩))) → MM S w0 w' ((key, ⟨true, b, T, A⟩) :: L) → wpAnyH P .any ops Q (fun w' => MM S w0 w' Ls) fuel (listed.setIfInBounds i true) a' w') :
 ∀ K' : Act → World → Prop, Shut (∀ a w, MM S w0 w Ls → (MM S w0 w Ls → wpAnyH P .any ops Q (fun w' => MM S w0 w' Ls) fuel (listed.setIfInBounds i true) a w) → K' a w) → if Region.wanted op (yielded ops a.tmps) = true then Oper.wp P op a w K' Q else K' (a.put op.dst undef) w := by
 intro K hK
 rw [if_pos hw]
 unfold Oper.wp
 have : (execOp a.eval op).run P w = .ok (.value (.pointer (some ⟨w.heap.size, 0, none⟩))) (w.alloc (.cells A T)) := by
  unfold execOp
  simp only [ho, ← hA, Instr.alloc, Sem.run_bind, hz, Result.andThen_ok]
  rfl
 rw [this]
 have hm' := hm.alloc key T A hk
 exact hK.out _ _ (hm'.sub Ls (hS2 _)) fun _ => k _ _ _ (he.putO _ _ hd) hm'
theorem wh_up {SS SS' : World → Prop} (h : ∀ w, SS' w → SS w) : ∀ (fuel : Nat) (listed : Array Bool) (a : Act) (w : World), wpAnyH P .any ops Q SS' fuel listed a w → wpAnyH P .any ops Q SS fuel listed a w
 | 0, _, _, _, H => H
 | fuel + 1, _, _, _, H => ⟨H.1, fun i hi => wpOp_mono (fun a' w' h' => ⟨h w' h'.1, wh_up h fuel _ a' w' h'.2⟩) (H.2 i hi)⟩
theorem wh_callN {i : Nat} {op : Oper} (hr : Region.ready .any ops listed = [i]) (hi : ops[i]? = some op) (he : EV a n d env) (hm : MM S w0 w L) (key : Nat) (hk : L.lookup key = none) (hd : op.dst.all (· < n) = true) (hw : Region.wanted op (yielded ops a.tmps) = true)
 (f : FuncId) (args : Array Value) (hrun : (execOp a.eval op).run P w = .ok (.enter f args) w)
 {v : α → Nat → Value} {T : TypeId} {A : α → Array Value} {Φ : α → Prop} (hc : Calls P f args w fun e w' => NewRow w v T A Φ e w') (hS : ∀ x b, SubL ((key, ⟨true, b, T, A x⟩) :: L) Ls) (hS2 : ∀ x b, SubL ((key, ⟨true, b, T, A x⟩) :: Ls) Ls)
 (k : ∀ x b a' w', Φ x → EV a' n d (putE env op.dst (v x b)) → MM S w0 w' ((key, ⟨true, b, T, A x⟩) :: L) → wpAnyH P .any ops Q (fun w' => MM S w0 w' ((key, ⟨true, b, T, A x⟩) :: Ls)) fuel (listed.setIfInBounds i true) a' w') : wpAnyH P .any ops Q (fun w' => MM S w0 w' Ls) (fuel + 1) listed a w := by
 refine wh_one hr hi hw fun K hK => ?_
 unfold Oper.wp
 rw [hrun]
 refine hc.mono ?_
 rintro e w' ⟨x, b, rfl, hx, hΦ, hs, hb⟩
 have hm' := hm.new key b T (A x) hk hb hx hs
 exact hK _ _ (hm'.sub Ls (hS x b)) (wh_up (fun w h => h.sub Ls (hS2 x b)) _ _ _ _ (k x b _ _ hΦ (he.putO _ _ hd) hm'))
end
def evO (env : List (Nat × Value)) : Operand → Option Value
 | .tmp t => env.lookup t
 | .const v => some v
 | _ => none
def evs (env : List (Nat × Value)) : List Operand → Option (List Value)
 | [] => some []
 | x :: r => match evO env x, evs env r with
   | some v, some l => some (v :: l)
   | _, _ => none
def opV (env : List (Nat × Value)) : Op → Option Value
 | .move x => evO env x
 | .assign x => evO env x
 | .pick c x y => match evO env c with
   | some (.bool true) => evO env x
   | some (.bool false) => evO env y
   | _ => none
 | .extract x i => match evO env x with
   | some (.tuple vs) => vs[i]?
   | _ => none
 | .unOp .not _ x => match evO env x with
   | some (.bool b) => some (.bool (!b))
   | _ => none
 | _ => none
def wantE (ops : Array Oper) (env : List (Nat × Value)) (op : Oper) : Option Bool := match op.guard with
 | none => some true
 | some (j, q) => match (ops[j]?).bind (·.dst) with
   | none => none
   | some t => match env.lookup t with
     | some (.bool b) => some (b == q)
     | some (.tuple _) => some false
     | _ => none
def dstE (op : Oper) (n : Nat) : Bool := op.dst.all (· < n)
def oneE (ops : Array Oper) (n : Nat) (env : List (Nat × Value)) (op : Oper) : Option (List (Nat × Value)) := match dstE op n, wantE ops env op with
 | true, some true => match opV env op.op with
   | some v => some (putE env op.dst v)
   | none => none
 | true, some false => some (putE env op.dst undef)
 | _, _ => none
def blkL (ops : Array Oper) (n : Nat) : Nat → List Oper → List (Nat × Value) → Option (List (Nat × Value))
 | 0, _, env => some env
 | _ + 1, [], _ => none
 | m + 1, op :: rest, env => match oneE ops n env op with
   | some e => blkL ops n m rest e
   | none => none
def blkD (ops : Array Oper) (n : Nat) : List Nat → Array Bool → List (Nat × Value) → Option (List (Nat × Value))
 | [], _, env => some env
 | i :: is, l, env => match ops.toList[i]?, Region.free .any ops l i, (Region.ready .any ops l).contains i with
   | some op, true, true => match oneE ops n env op with
     | some e => blkD ops n is (l.setIfInBounds i true) e
     | none => none
   | _, _, _ => none
def setAll (l : Array Bool) : List Nat → Array Bool
 | [] => l
 | i :: is => setAll (l.setIfInBounds i true) is
def callE (env : List (Nat × Value)) : Op → Option (FuncId × Array Value)
 | .call c => match c.callee, evs env c.args.toList with
   | .value (.func f), some l => some (f, l.toArray)
   | .value (.tmp t), some l => match env.lookup t with
     | some (.func (.func f) first cap) => some (f, first ++ l.toArray ++ cap)
     | _ => none
   | _, _ => none
 | _ => none
section
variable {P : Program} {ops : Array Oper} {Q : Exit → Act → World → Prop} {rest : List Oper} {op : Oper} {a : Act} {w w0 : World} {S : List Nat} {L Ls : List (Nat × Ent)}
 {n : Nat} {d : List Deferred} {env : List (Nat × Value)} {fuel : Nat} {listed : Array Bool}
theorem EV.evO (he : EV a n d env) {x : Operand} {v : Value} (h : evO env x = some v) : a.eval x = v := by
 cases x <;> simp [Ytkaekiodjjhjkaa.evO] at h
 ·exact he.tmp _ _ h
 ·rw [← h]; rfl
theorem EV.evs (he : EV a n d env) : ∀ {x : List Operand} {l : List Value}, evs env x = some l → x.map a.eval = l
 | [], l, h => by cases h; rfl
 | x :: r, l, h => by
   simp only [Ytkaekiodjjhjkaa.evs] at h
   cases h1 : Ytkaekiodjjhjkaa.evO env x <;> rw [h1] at h
   ·simp at h
   ·cases h2 : Ytkaekiodjjhjkaa.evs env r <;> rw [h2] at h
    ·simp at h
    ·obtain rfl : _ :: _ = l := by simpa using h
     rw [List.map_cons, he.evO h1, he.evs h2]
theorem EV.opV (he : EV a n d env) {v : Value} (h : opV env op.op = some v) (w : World) : (execOp a.eval op).run P w = .ok (.value v) w := by
 unfold Ytkaekiodjjhjkaa.opV at h
 split at h
 ·rename_i x ho; exact rn_move x (Or.inl ho) v (he.evO h)
 ·rename_i x ho; exact rn_move x (Or.inr ho) v (he.evO h)
 ·rename_i c x y ho
  split at h
  ·rename_i hc; exact rn_pickT c x y ho (he.evO hc) v (he.evO h)
  ·rename_i hc; exact rn_pickF c x y ho (he.evO hc) v (he.evO h)
  ·cases h
 ·rename_i x i ho
  split at h
  ·rename_i vs hx; exact rn_extract x i ho vs (he.evO hx) v h
  ·cases h
 ·rename_i T x ho
  split at h
  ·rename_i b hx; cases h; exact rn_un .not T x ho (.bool b) (.bool (!b)) _ (he.evO hx) rfl rfl
  ·cases h
 ·cases h
theorem EV.want (he : EV a n d env) {x : Bool} (h : wantE ops env op = some x) : Region.wanted op (yielded ops a.tmps) = x := by
 unfold wantE at h
 unfold Region.wanted
 split at h
 ·rename_i hg; cases h; rw [hg]
 ·rename_i j q hg
  rw [hg]
  split at h
  ·cases h
  ·rename_i t ht
   split at h
   ·rename_i b hl; cases h
    simp only [yielded, ht, Option.bind_some, he.has t _ hl]
    cases b <;> cases q <;> rfl
   ·rename_i vs hl; cases h
    simp only [yielded, ht, Option.bind_some, he.has t _ hl]
    rfl
   ·cases h
theorem EV.one (he : EV a n d env) {e : List (Nat × Value)} (h : oneE ops n env op = some e) : op.dst.all (· < n) = true ∧ ∃ v, putE env op.dst v = e ∧ EV (a.put op.dst v) n d e ∧
 ((Region.wanted op (yielded ops a.tmps) = true ∧ ∀ w, (execOp a.eval op).run P w = .ok (.value v) w) ∨ (Region.wanted op (yielded ops a.tmps) = false ∧ v = undef)) := by
 unfold oneE at h
 split at h
 ·rename_i h1 h2
  split at h
  ·rename_i v hv; cases h
   exact ⟨h1, v, rfl, he.putO _ _ h1, .inl ⟨he.want h2, fun w => he.opV hv w⟩⟩
  ·cases h
 ·rename_i h1 h2; cases h
  exact ⟨h1, undef, rfl, he.putO _ _ h1, .inr ⟨he.want h2, rfl⟩⟩
 ·cases h
theorem wb0 (m : Nat) (he : EV a n d env) (env' : List (Nat × Value)) (h : blkL ops n m rest env = some env') (k : ∀ a', EV a' n d env' → wpList P ops Q (rest.drop m) a' w) : wpList P ops Q rest a w := by
 induction m generalizing rest env a with
 | zero => cases h; exact k _ he
 | succ m ih =>
   cases rest with
   | nil => cases h
   | cons op rest =>
     unfold blkL at h
     split at h
     ·rename_i e h1
      obtain ⟨hd, v, rfl, he', hv⟩ := he.one (P := P) h1
      rcases hv with ⟨hw, hr⟩ | ⟨hw, rfl⟩
      ·exact wl_val he hd hw v (hr w) fun a' ha' => ih ha' h k
      ·exact wl_not he hd hw fun a' ha' => ih ha' h k
     ·cases h
theorem wb (m : Nat) (he : EV a n d env) (new : List (Nat × Value)) (k : ∀ a', EV a' n d (new ++ env) → wpList P ops Q (rest.drop m) a' w) (h : blkL ops n m rest env = some (new ++ env) := by kernel_rfl) : wpList P ops Q rest a w := wb0 m he _ h k
theorem wtb0 (is : List Nat) (he : EV a n d env) (hm : MM S w0 w L) (hS : SubL L Ls) (env' : List (Nat × Value)) (hs : Region.noSelect ops = true) (h : blkD ops n is listed env = some env') (hq : ∀ t v c a w, Q (.panic c) (Act.put a t v) w → Q (.panic c) a w)
 (k : ∀ a', EV a' n d env' → wpAnyH P .any ops Q (fun w' => MM S w0 w' Ls) fuel (setAll listed is) a' w) : wpAnyH P .any ops Q (fun w' => MM S w0 w' Ls) (fuel + is.length) listed a w := by
 induction is generalizing env a listed with
 | nil => cases h; exact k _ he
 | cons i is ih =>
   unfold blkD at h
   split at h
   ·rename_i op hi hf hr
    rw [Array.getElem?_toList] at hi
    split at h
    ·rename_i e h1
     obtain ⟨hd, v, rfl, he', hv⟩ := he.one (P := P) h1
     exact wpAnyH_take hi hs hf hr (fun c a w => hq _ v c a w) (hv.imp (fun ⟨a, b⟩ => ⟨a, fun w _ => b w⟩) id) (hm.sub Ls hS) (ih he' h k)
    ·cases h
   ·cases h
theorem wtb (is : List Nat) (he : EV a n d env) (hm : MM S w0 w L) (new : List (Nat × Value)) (k : ∀ a', EV a' n d (new ++ env) → wpAnyH P .any ops Q (fun w' => MM S w0 w' Ls) fuel (setAll listed is) a' w)
 (h : (Region.noSelect ops, blkD ops n is listed env) = (true, some (new ++ env)) := by kernel_rfl) (hq : ∀ t v c a w, Q (.panic c) (Act.put a t v) w → Q (.panic c) a w := by intro t v c a w h; cases t <;> exact h) (hS : SubL L Ls := by (repeat refine ⟨rfl, ?_⟩); trivial) : wpAnyH P .any ops Q (fun w' => MM S w0 w' Ls) (fuel + is.length) listed a w :=
 wtb0 is he hm hS _ (congrArg (·.1) h) (congrArg (·.2) h) hq k
theorem EV.call (he : EV a n d env) {f : FuncId} {args : Array Value} (h : callE env op.op = some (f, args)) (hf : ∀ args w, (callFunc f args).run P w = .ok (.enter f args) w) (w : World) : (execOp a.eval op).run P w = .ok (.enter f args) w := by
 unfold callE at h
 split at h
 ·rename_i c ho
  split at h
  ·rename_i g l hc hl
   obtain ⟨rfl, rfl⟩ : g = f ∧ l.toArray = args := by simpa using h
   have hx : c.args.map a.eval = l.toArray := by apply Array.ext'; rw [Array.toList_map, he.evs hl]
   refine enter_call (.func g) c.args c.argTypes (by rw [ho, ← hc]) g #[] #[] rfl _ hx _ (by simp) hf
  ·rename_i t l hc hl
   split at h
   ·rename_i g first cap hv
    obtain ⟨rfl, rfl⟩ : g = f ∧ first ++ l.toArray ++ cap = args := by simpa using h
    have hx : c.args.map a.eval = l.toArray := by apply Array.ext'; rw [Array.toList_map, he.evs hl]
    exact enter_call (.tmp t) c.args c.argTypes (by rw [ho, ← hc]) g first cap (he.tmp t _ hv) _ hx _ rfl hf
   ·cases h
  ·cases h
 ·cases h
abbrev CallIs (ops : Array Oper) (n : Nat) (env : List (Nat × Value)) (op : Oper) (f : FuncId) (args : Array Value) : Prop := (dstE op n, wantE ops env op, callE env op.op) = (true, some true, some (f, args))
theorem CallIs.hd {f : FuncId} {args : Array Value} (h : CallIs ops n env op f args) : op.dst.all (· < n) = true := congrArg (·.1) h
theorem CallIs.hw {f : FuncId} {args : Array Value} (h : CallIs ops n env op f args) : wantE ops env op = some true := congrArg (·.2.1) h
theorem CallIs.hc {f : FuncId} {args : Array Value} (h : CallIs ops n env op f args) : callE env op.op = some (f, args) := congrArg (·.2.2) h
theorem kv (he : EV a n d env) (v : Value) (hr : (execOp a.eval op).run P w = .ok (.value v) w) (k : ∀ a', EV a' n d (putE env op.dst v) → wpList P ops Q rest a' w) (h : (dstE op n, wantE ops env op) = (true, some true) := by kernel_rfl) : wpList P ops Q (op :: rest) a w :=
 wl_val he (congrArg (·.1) h) (he.want (congrArg (·.2) h)) v hr k
theorem kc (he : EV a n d env) (hm : MM S w0 w L) {f : FuncId} {args : Array Value} {v : Value} (hc : Calls P f args w fun e w' => e = .returned v ∧ Below w.heap.size w w')
 (k : ∀ a' w', EV a' n d (putE env op.dst v) → MM S w0 w' L → wpList P ops Q rest a' w') (h : CallIs ops n env op f args := by unfold CallIs; kernel_rfl) (hf : ∀ args w, (callFunc f args).run P w = .ok (.enter f args) w := by intros; kernel_rfl) : wpList P ops Q (op :: rest) a w :=
 wl_call he hm h.hd (he.want h.hw) f args (he.call h.hc hf w) v hc k
variable {α : Type}
theorem kn (he : EV a n d env) (hm : MM S w0 w L) (key : Nat) {f : FuncId} {args : Array Value} {v : α → Nat → Value} {T : TypeId} {A : α → Array Value} {Φ : α → Prop} (hc : Calls P f args w fun e w' => NewRow w v T A Φ e w')
 (k : ∀ x b a' w', Φ x → EV a' n d (putE env op.dst (v x b)) → MM S w0 w' ((key, ⟨true, b, T, A x⟩) :: L) → wpList P ops Q rest a' w') (h : CallIs ops n env op f args := by unfold CallIs; kernel_rfl) (hk : L.lookup key = none := by rfl) (hf : ∀ args w, (callFunc f args).run P w = .ok (.enter f args) w := by intros; kernel_rfl) : wpList P ops Q (op :: rest) a w :=
 wl_callN he hm key hk h.hd (he.want h.hw) f args (he.call h.hc hf w) hc k
theorem tv (i : Nat) (hi : ops.toList[i]? = some op) (he : EV a n d env) (hm : MM S w0 w L) (v : Value) (hy : ∀ w', MM S w0 w' Ls → (execOp a.eval op).run P w' = .ok (.value v) w')
 (k : ∀ a', EV a' n d (putE env op.dst v) → wpAnyH P .any ops Q (fun w' => MM S w0 w' Ls) fuel (listed.setIfInBounds i true) a' w)
 (h : (Region.noSelect ops, Region.free .any ops listed i, (Region.ready .any ops listed).contains i, dstE op n, wantE ops env op) = (true, true, true, true, some true) := by kernel_rfl) (hq : ∀ t v c a w, Q (.panic c) (Act.put a t v) w → Q (.panic c) a w := by intro t v c a w h; cases t <;> exact h) (hS : SubL L Ls := by (repeat refine ⟨rfl, ?_⟩); trivial) : wpAnyH P .any ops Q (fun w' => MM S w0 w' Ls) (fuel + 1) listed a w := by
 rw [Array.getElem?_toList] at hi
 exact wh_take hi (congrArg (·.1) h) (congrArg (·.2.1) h) (congrArg (·.2.2.1) h) (fun c a w => hq _ _ c a w) (fun v c a w => hq _ v c a w) he hm hS (congrArg (·.2.2.2.1) h) (he.want (congrArg (·.2.2.2.2) h)) v hy k
abbrev UpIs (ops : Array Oper) (listed : Array Bool) (i n : Nat) (env : List (Nat × Value)) (op : Oper) (f : FuncId) (args : Array Value) : Prop := (Region.ready .any ops listed, dstE op n, wantE ops env op, callE env op.op) = ([i], true, some true, some (f, args))
theorem tc (i : Nat) (hi : ops.toList[i]? = some op) (he : EV a n d env) (hm : MM S w0 w L) {f : FuncId} {args : Array Value} {v : Value} (hc : Calls P f args w fun e w' => e = .returned v ∧ Below w.heap.size w w')
 (k : ∀ a' w', EV a' n d (putE env op.dst v) → MM S w0 w' L → wpAnyH P .any ops Q (fun w' => MM S w0 w' Ls) fuel (listed.setIfInBounds i true) a' w')
 (h : UpIs ops listed i n env op f args := by unfold UpIs; kernel_rfl) (hf : ∀ args w, (callFunc f args).run P w = .ok (.enter f args) w := by intros; kernel_rfl) (hS : SubL L Ls := by (repeat refine ⟨rfl, ?_⟩); trivial) : wpAnyH P .any ops Q (fun w' => MM S w0 w' Ls) (fuel + 1) listed a w := by
 rw [Array.getElem?_toList] at hi
 exact wh_call (congrArg (·.1) h) hi he hm hS (congrArg (·.2.1) h) (he.want (congrArg (·.2.2.1) h)) f args (he.call (congrArg (·.2.2.2) h) hf w) v hc k
theorem tn (i : Nat) (hi : ops.toList[i]? = some op) (he : EV a n d env) (hm : MM S w0 w L) (key : Nat) {f : FuncId} {args : Array Value} {v : α → Nat → Value} {T : TypeId} {A : α → Array Value} {Φ : α → Prop} (hc : Calls P f args w fun e w' => NewRow w v T A Φ e w') (hS : ∀ x b, SubL ((key, ⟨true, b, T, A x⟩) :: L) Ls) (hS2 : ∀ x b, SubL ((key, ⟨true, b, T, A x⟩) :: Ls) Ls)
 (k : ∀ x b a' w', Φ x → EV a' n d (putE env op.dst (v x b)) → MM S w0 w' ((key, ⟨true, b, T, A x⟩) :: L) → wpAnyH P .any ops Q (fun w' => MM S w0 w' ((key, ⟨true, b, T, A x⟩) :: Ls)) fuel (listed.setIfInBounds i true) a' w')
 (h : UpIs ops listed i n env op f args := by unfold UpIs; kernel_rfl) (hk : L.lookup key = none := by rfl) (hf : ∀ args w, (callFunc f args).run P w = .ok (.enter f args) w := by intros; kernel_rfl) : wpAnyH P .any ops Q (fun w' => MM S w0 w' Ls) (fuel + 1) listed a w := by
 rw [Array.getElem?_toList] at hi
 exact wh_callN (congrArg (·.1) h) hi he hm key hk (congrArg (·.2.1) h) (he.want (congrArg (·.2.2.1) h)) f args (he.call (congrArg (·.2.2.2) h) hf w) hc hS hS2 k
theorem sc {i : Nat} (he : EV a n d env) (hm : MM S w0 w L) {f : FuncId} {args : Array Value} {v : Value} (hc : Calls P f args w fun e w' => e = .returned v ∧ Below w.heap.size w w')
 (k : ∀ a' w', EV a' n d (putE env op.dst v) → MM S w0 w' L → wpAnyH P .any ops Q (fun w' => MM S w0 w' Ls) fuel (listed.setIfInBounds i true) a' w') (h : CallIs ops n env op f args := by unfold CallIs; kernel_rfl) (hf : ∀ args w, (callFunc f args).run P w = .ok (.enter f args) w := by intros; kernel_rfl) (hS : SubL L Ls := by (repeat refine ⟨rfl, ?_⟩); trivial) :
 ∀ K' : Act → World → Prop, Shut (∀ a w, MM S w0 w Ls → (MM S w0 w Ls → wpAnyH P .any ops Q (fun w' => MM S w0 w' Ls) fuel (listed.setIfInBounds i true) a w) → K' a w) → if Region.wanted op (yielded ops a.tmps) = true then Oper.wp P op a w K' Q else K' (a.put op.dst undef) w :=
 st_call he hm hS h.hd (he.want h.hw) f args (he.call h.hc hf w) v hc k
end
end Go.Proofs.Ytkaekiodjjhjkaa
namespace Go.Proofs.Ytkaekiodjjhjkaa.W
open Go.RowKit
def decS (n : Nat) : ByteArray := if h : n < 10 then strOfNums [48 + (n : Int)] else decS (n / 10) ++ strOfNums [48 + ((n % 10 : Nat) : Int)]
theorem decS_lt {n : Nat} (h : n < 10) : decS n = strOfNums [48 + (n : Int)] := by rw [decS, dif_pos h]
theorem decS_ge {n : Nat} (h : ¬ n < 10) : decS n = decS (n / 10) ++ strOfNums [48 + ((n % 10 : Nat) : Int)] := by rw [decS, dif_neg h]
theorem decS_size : ∀ (k n : Nat), n < 10 ^ (k + 1) → (decS n).size ≤ k + 1
 | 0, n, h => by rw [decS_lt (by simpa using h)]; simp [strOfNums, ByteArray.size]
 | k + 1, n, h => by
   by_cases h1 : n < 10
   ·rw [decS_lt h1]; simp [strOfNums, ByteArray.size]
   ·rw [decS_ge h1]
    have := decS_size k (n / 10) (by rw [Nat.pow_succ] at h; omega)
    have e : (strOfNums [48 + ((n % 10 : Nat) : Int)]).size = 1 := by simp [strOfNums, ByteArray.size]
    rw [ByteArray.size_append, e]
    omega
end Go.Proofs.Ytkaekiodjjhjkaa.W
namespace Go.Proofs.Ytkaekiodjjhjkaa.W
open Go.RowKit
structure Ru where
 at_ : Int
 op : Int
 num : Int
 ver : Int
 key : Int
def Ru.arr (r : Ru) : Array Value := #[.int .i64 r.at_, .int .i64 r.op, .int .i64 r.num, .int .i64 r.ver, .int .i64 r.key]
theorem Ru.one (r : Ru) : r.arr.all (·.oneCell') = true := by kernel_rfl
def inR (n lo hi : Int) : Bool := decide (n ≥ lo) && decide (n ≤ hi)
def ruOk (r : Ru) : Bool := inR r.at_ 0 11 && (inR r.op 12 15 && (inR r.num 0 255 && (inR r.ver 0 2 && (inR r.key 0 4294967295 && (r.ver == 2 || r.key == 0)))))
def ruAll (f : Nat → Ru) (n : Nat) : Bool := (List.range n).all fun i => ruOk (f i)
theorem ruAll_no {f : Nat → Ru} {n i : Nat} (h : i < n) (hf : ruOk (f i) = false) : ruAll f n = false := by
 rw [ruAll, List.all_eq_false]
 exact ⟨i, List.mem_range.2 h, by simp [hf]⟩
theorem ruAll_yes {f : Nat → Ru} {n : Nat} (h : ∀ i, i < n → ruOk (f i) = true) : ruAll f n = true := by
 rw [ruAll, List.all_eq_true]
 exact fun i hi => h i (List.mem_range.1 hi)
def ruOks (f : Nat → Ru) (n : Nat) : Bool := ruAll f n && decide ((n : Int) ≤ 6)
structure RuIs (r : Ru) : Prop where
 at0 : 0 ≤ r.at_
 at1 : r.at_ ≤ 11
 op0 : 12 ≤ r.op
 op1 : r.op ≤ 15
 num0 : 0 ≤ r.num
 num1 : r.num ≤ 255
 ver0 : 0 ≤ r.ver
 ver1 : r.ver ≤ 2
 key0 : 0 ≤ r.key
 key1 : r.key ≤ 4294967295
 none : r.ver = 2 ∨ r.key = 0
theorem ruOk_is {r : Ru} (h : ruOk r = true) : RuIs r := by
 simp [ruOk, inR] at h
 constructor <;> omega
theorem ruOks_all {f : Nat → Ru} {n : Nat} (h : ruOks f n = true) : (∀ i, i < n → ruOk (f i) = true) ∧ n ≤ 6 := by
 rw [ruOks, Bool.and_eq_true, ruAll, List.all_eq_true] at h
 exact ⟨fun i hi => h.1 i (List.mem_range.2 hi), by have := h.2; simp at this; omega⟩
end Go.Proofs.Ytkaekiodjjhjkaa.W
