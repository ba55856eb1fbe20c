/- Draws as steps: what a reader answers, and what it keeps. -/
import Derived.Test.YtkaekiodjjhjkaaDoorKT
import Derived.Test.YtkaekiodjjhjkaaDoorPU0
namespace Go.Proofs.YtkaekiodjjhjkaaDoor
open Go.RowKit
set_option linter.unusedVariables false
set_option linter.unusedSimpArgs false
/-- A reader's cells. -/
def rdA (a : Option Addr) (len cap p : Nat) : Array Value := #[.slice a len cap, .int .i64 ((p : Nat) : Int)]
theorem RS.bx {w0 w : World} {B : Nat} {a : Option Addr} {len cap p : Nat} (h : RS w0 w B a len cap p) : BX w B 52 (rdA a len cap p) := h.box
theorem RS.kb {w0 w w' : World} {B : Nat} {a : Option Addr} {len cap p q : Nat} (h : RS w0 w B a len cap p) (k : KB [B] w w') (hx : BX w' B 52 (rdA a len cap q)) : RS w0 w' B a len cap q := by
  have hb := h.bel
  have hg := h.ge
  exact ⟨hx, h.ge, ⟨k.os.trans hb.os, k.tape.trans hb.tape, k.output.trans hb.output, Nat.le_trans hb.size k.size, fun j hj => (k.block j (Nat.lt_of_lt_of_le hj hb.size) (by simp; omega)).trans (hb.block j hj)⟩, h.src, h.le⟩
theorem RS.keep {w0 w w' : World} {B : Nat} {a : Option Addr} {len cap p q : Nat} (h : RS w0 w B a len cap p) (h1 : RS w0 w' B a len cap q) (hs : w.heap.size ≤ w'.heap.size) (hb : ∀ k, k < w.heap.size → k ≠ B → w'.heap[k]? = w.heap[k]?) : KB [B] w w' ∧ BX w' B 52 (rdA a len cap q) :=
  ⟨⟨h1.bel.os.trans h.bel.os.symm, h1.bel.tape.trans h.bel.tape.symm, h1.bel.output.trans h.bel.output.symm, hs, fun k hk hS => hb k hk (by simpa using hS)⟩, h1.box⟩
theorem K3.keep {w0 w w' : World} {B : Nat} {a : Option Addr} {len cap p q : Nat} (h : RS w0 w B a len cap p) (k : K3 w0 w w' B a len cap q) : KB [B] w w' ∧ BX w' B 52 (rdA a len cap q) := h.keep k.rs k.kp.1 k.kp.2
/-- What a call that draws answers: some value, the reader moved on. -/
def Draws {α : Type} (w : World) (B : Nat) (v : α → Value) (T : TypeId) (A : α → Array Value) (Φ : α → Prop) (e : Ending) (w' : World) : Prop :=
  ∃ x : α, e = .returned (v x) ∧ Φ x ∧ KB [B] w w' ∧ BX w' B T (A x)
/-- Likewise, and a new row. -/
def DrawsN {α : Type} (w : World) (B : Nat) (v : α → Nat → Value) (T1 : TypeId) (A1 : α → Array Value) (T : TypeId) (A : α → Array Value) (Φ : α → Prop) (e : Ending) (w' : World) : Prop :=
  ∃ (x : α) (b : Nat), e = .returned (v x b) ∧ Φ x ∧ BX w' b T1 (A1 x) ∧ w.heap.size ≤ b ∧ KB [B] w w' ∧ BX w' B T (A x)
section
variable {P : Program} {ops : Array Oper} {Q : Exit → Act → World → Prop} {rest : List Oper} {op : Oper} {a : Act} {w w0 : World} {S : List Nat} {L Ls : List (Nat × Ent)}
  {n : Nat} {d : List Deferred} {env : List (Nat × Value)} {fuel : Nat} {listed : Array Bool} {α : Type}
theorem wl_callD (he : EV a n d env) (hm : MM S w0 w L) (key : Nat) {b : Nat} {T : TypeId} {A0 : Array Value} (hl : L.lookup key = some ⟨true, b, T, A0⟩) (hd : op.dst.all (· < n) = true) (hw : Region.wanted op (yielded ops a.tmps) = true) (f : FuncId) (args : Array Value) (hr : (execOp a.eval op).run P w = .ok (.enter f args) w)
    {v : α → Value} {A : α → Array Value} {Φ : α → Prop} (hc : Calls P f args w fun e w' => Draws w b v T A Φ e w')
    (k : ∀ x a' w', Φ x → EV a' n d (putE env op.dst (v x)) → MM S w0 w' ((key, ⟨true, b, T, A x⟩) :: L) → wpList P ops Q rest a' w') : wpList P ops Q (op :: rest) a w := by
  unfold wpList
  rw [if_pos hw]
  refine .inl ?_
  unfold Oper.wp
  rw [hr]
  refine hc.mono ?_
  rintro e w' ⟨x, rfl, hΦ, hk, hx⟩
  exact k x _ _ hΦ (he.putO _ _ hd) (hm.kb1 key b T A0 (A x) hl hk hx)
theorem MM.kbnew {w' : World} (h : MM S w0 w L) (key : Nat) (b : Nat) (T : TypeId) (A A' : Array Value) (hl : L.lookup key = some ⟨true, b, T, A⟩) (k : KB [b] w w') (hx : BX w' b T A') (key2 : Nat) (b2 : Nat) (T2 : TypeId) (A2 : Array Value) (hk2 : L.lookup key2 = none) (hne : key2 ≠ key) (hx2 : BX w' b2 T2 A2) (hs : w.heap.size ≤ b2) :
    MM S w0 w' ((key2, ⟨true, b2, T2, A2⟩) :: (key, ⟨true, b, T, A'⟩) :: L) := by
  have h' := h.kb1 key b T A A' hl k hx
  have hold : ∀ j e, ((key, (⟨true, b, T, A'⟩ : Ent)) :: L).lookup j = some e → e.b < w.heap.size := by
    intro j e hj
    rw [lk] at hj
    split at hj
    · cases hj; exact (h.has key _ hl).lt
    · exact (h.has j e hj).lt
  refine ⟨h'.keep, ?_, ?_, ?_⟩
  · intro j e hj
    rw [lk] at hj
    split at hj
    · cases hj; exact hx2
    · exact h'.has j e hj
  · intro j e hj ho
    rw [lk] at hj
    split at hj
    · cases hj; exact .inl (Nat.le_trans h.keep.size hs)
    · exact h'.own j e hj ho
  · intro j i e f hj hi hne ho
    rw [lk] at hj hi
    split at hj <;> split at hi
    · rename_i h1 h2; exact absurd (h1.trans h2.symm) hne
    · cases hj; have := hold i f hi; show b2 ≠ f.b; omega
    · cases hi; have := hold j e hj; show e.b ≠ b2; omega
    · exact h'.apart j i e f hj hi hne ho
theorem wl_callDN (he : EV a n d env) (hm : MM S w0 w L) (key : Nat) {b : Nat} {T : TypeId} {A0 : Array Value} (hl : L.lookup key = some ⟨true, b, T, A0⟩) (key2 : Nat) (hk2 : L.lookup key2 = none) (hne : key2 ≠ key) (hd : op.dst.all (· < n) = true) (hw : Region.wanted op (yielded ops a.tmps) = true) (f : FuncId) (args : Array Value) (hr : (execOp a.eval op).run P w = .ok (.enter f args) w)
    {v : α → Nat → Value} {T1 : TypeId} {A1 A : α → Array Value} {Φ : α → Prop} (hc : Calls P f args w fun e w' => DrawsN w b v T1 A1 T A Φ e w')
    (k : ∀ x b2 a' w', Φ x → EV a' n d (putE env op.dst (v x b2)) → MM S w0 w' ((key2, ⟨true, b2, T1, A1 x⟩) :: (key, ⟨true, b, T, A x⟩) :: L) → wpList P ops Q rest a' w') : wpList P ops Q (op :: rest) a w := by
  unfold wpList
  rw [if_pos hw]
  refine .inl ?_
  unfold Oper.wp
  rw [hr]
  refine hc.mono ?_
  rintro e w' ⟨x, b2, rfl, hΦ, hx1, hs, hk, hx⟩
  exact k x b2 _ _ hΦ (he.putO _ _ hd) (hm.kbnew key b T A0 (A x) hl hk hx key2 b2 T1 (A1 x) hk2 hne hx1 hs)
end
section
variable {w0 w : World} {B : Nat} {a : Option Addr} {len cap p : Nat} (h : RS w0 w B a len cap p)
include h
theorem d_pick (hp : p ≤ 1000000) (n : Nat) (n0 : 1 ≤ n) (n1 : n ≤ 2147483647) :
    Calls Tryd.prog 23 #[.pointer (some ⟨B, 0, none⟩), .int .i64 ((n : Nat) : Int)] w fun e w' => Draws w B (fun x : Nat => .int .i64 ((x : Nat) : Int)) 52 (fun _ => rdA a len cap (p + 1)) (fun x => x < n) e w' := by
  refine (pick_s h hp (n : Int) (by omega) (by omega)).mono ?_
  rintro e w' ⟨m, rfl, hm, h1, h2, h3⟩
  obtain ⟨k1, k2⟩ := h.keep h1 (by omega) (fun k _ hk => h3 k hk)
  exact ⟨m, rfl, by omega, k1, k2⟩
theorem d_one (hp : p ≤ 1000000) (L : Nat) (l : List Int) (cur : Array Value) (hx : BX w L 3 cur) (hl : cur = (l.map fun v => Value.int .i64 v).toArray) (hne : L ≠ B) (m0 : 0 < l.length) (m1 : l.length ≤ 1000) (m : Nat) (hm : m = l.length) :
    Calls Tryd.prog 27 #[.pointer (some ⟨B, 0, none⟩), .slice (some ⟨L, 0, none⟩) m m] w fun e w' => Draws w B (fun x : Int => .int .i64 x) 52 (fun _ => rdA a len cap (p + 1)) (fun x => x ∈ l) e w' := by
  subst hm hl
  refine (one_s h hp L l.length (fun i => l.getD i 0) hne m0 m1 (fun i hi => by
    rw [hx.cell]; simp [hi, List.getD])).mono ?_
  rintro e w' ⟨i, hi, rfl, h1, h2, h3⟩
  obtain ⟨k1, k2⟩ := h.keep h1 (by omega) (fun k _ hk => h3 k hk)
  exact ⟨l.getD i 0, rfl, by simp [hi], k1, k2⟩
end
section
variable {P : Program} {ops : Array Oper} {Q : Exit → Act → World → Prop} {a : Act} {w w0 : World} {S : List Nat} {L Ls : List (Nat × Ent)}
  {n : Nat} {d : List Deferred} {env : List (Nat × Value)} {fuel : Nat} {listed : Array Bool} {α : Type}
theorem wh_append {i : Nat} {op : Oper} (hrd : Region.ready .any ops listed = [i]) (hi : ops[i]? = some op) (he : EV a n d env) (hm : MM S w0 w L) (key : Nat) {g : Nat} {e : TypeId} {cur : Array Value} (hlk : L.lookup key = some ⟨true, g, e, cur⟩) (hd : op.dst.all (· < n) = true) (hw : Region.wanted op (yielded ops a.tmps) = true) (s x : Operand) (t : TypeId)
    (ho : op.op = .call { callee := .builtin .append, args := #[s, x], argTypes := #[t, t] }) {z : Value} {size bytes : Nat} (E : ElT P t e z size bytes) {k cap : Nat} (hs : a.eval s = .slice (some ⟨g, 0, none⟩) k cap) {xs : List Value} (hrw : Rw cur k cap size xs)
    (ad : Addr) (m c : Nat) (hx : a.eval x = .slice (some ad) m c) (news : List Value) (hl : news.length = m * size) (hnews : ∀ j u, news[j]? = some u → w.cell? (ad.add j) = some u) (h1 : ∀ u ∈ news, u.oneCell' = true)
    (h63 : k + m ≤ maxLen) (hbytes : (k + m) * bytes ≤ 140737488355328)
    (hSb : ∀ g' cur', SubL ((key, ⟨true, g', e, cur'⟩) :: L) Ls)
    (kk : ∀ a' w' g' cap' cur', EV a' n d (putE env op.dst (.slice (some ⟨g', 0, none⟩) (k + m) cap')) → MM S w0 w' ((key, ⟨true, g', e, cur'⟩) :: L) → Rw cur' (k + m) cap' size (xs ++ news) → wpAnyH P .any ops Q (fun w' => MM S w0 w' Ls) fuel (listed.setIfInBounds i true) a' w') : wpAnyH P .any ops Q (fun w' => MM S w0 w' Ls) (fuel + 1) listed a w := by
  refine wh_one hrd hi hw fun K hK => ?_
  have ex : ∀ v w', (Builtin.append_ #[t, t] op.type #[.slice (some ⟨g, 0, none⟩) k cap, .slice (some ad) m c]).run P w = .ok v w' → (execOp a.eval op).run P w = .ok (.value v) w' := fun v w' hr => by
    unfold execOp
    simp only [ho, resolve, invoke, builtin, Sem.run_bind, Sem.run_pure, Result.andThen_ok, List.map_toArray, List.map_cons, List.map_nil, hs, hx, hr]
  unfold Oper.wp
  rcases run_app (ty := op.type) E g cap k cur xs (hm.has key _ hlk) hrw ad m c news hl hnews h1 h63 hbytes with ⟨cur', hrw', hr⟩ | ⟨cap', cur', hrw', hr⟩
  · rw [ex _ _ hr]
    have mm := hm.setRow key g e cur hlk cur'
    exact hK _ _ (mm.sub Ls (hSb _ _)) (kk _ _ _ _ _ (he.putO _ _ hd) mm hrw')
  · rw [ex _ _ hr]
    suffices mm : MM S w0 (w.drew.alloc (.cells cur' e)) ((key, ⟨true, w.heap.size, e, cur'⟩) :: L) from hK _ _ (mm.sub Ls (hSb _ _)) (kk _ _ _ _ _ (he.putO _ _ hd) mm hrw')
    have h0 := hm.drew
    have hs' : w.drew.heap.size = w.heap.size := rfl
    have old : ∀ k, k < w.heap.size → (w.drew.alloc (.cells cur' e)).heap[k]? = w.heap[k]? := fun k hk => Below.heap_alloc w.drew _ _ hk
    refine ⟨⟨h0.keep.os, h0.keep.tape, h0.keep.output, by simp; exact Nat.le_succ_of_le h0.keep.size, fun k hk hS => (old k (Nat.lt_of_lt_of_le hk h0.keep.size)).trans (h0.keep.block k hk hS)⟩, ?_, ?_, ?_⟩
    · intro k2 e2 hk2
      rw [lk] at hk2
      split at hk2
      · cases hk2; exact World.alloc_heap_new w.drew _
      · have := hm.has k2 e2 hk2; exact (old e2.b this.lt).trans this
    · intro k2 e2 hk2 ho2
      rw [lk] at hk2
      split at hk2
      · cases hk2; exact .inl hm.keep.size
      · exact hm.own k2 e2 hk2 ho2
    · intro j2 k2 e2 f2 hj2 hk2 hne ho2
      rw [lk] at hj2 hk2
      split at hj2 <;> split at hk2
      · rename_i q1 q2; exact absurd (q1.trans q2.symm) hne
      · cases hj2; have := (hm.has k2 f2 hk2).lt; simp; omega
      · cases hk2; have := (hm.has j2 e2 hj2).lt; simp; omega
      · exact hm.apart j2 k2 e2 f2 hj2 hk2 hne ho2
theorem wh_append0 {i : Nat} {op : Oper} (hrd : Region.ready .any ops listed = [i]) (hi : ops[i]? = some op) (he : EV a n d env) (hm : MM S w0 w L) (key : Nat) (hkey : L.lookup key = none) (hd : op.dst.all (· < n) = true) (hw : Region.wanted op (yielded ops a.tmps) = true) (s x : Operand) (t : TypeId)
    (ho : op.op = .call { callee := .builtin .append, args := #[s, x], argTypes := #[t, t] }) {e : TypeId} {z : Value} {size bytes : Nat} (E : ElT P t e z size bytes) (hs : a.eval s = .slice none 0 0)
    (ad : Addr) (m c : Nat) (hx : a.eval x = .slice (some ad) m c) (hm0 : 0 < m) (news : List Value) (hl : news.length = m * size) (hnews : ∀ j u, news[j]? = some u → w.cell? (ad.add j) = some u)
    (h63 : m ≤ maxLen) (hbytes : m * bytes ≤ 140737488355328)
    (hSb : ∀ g' cur', SubL ((key, ⟨true, g', e, cur'⟩) :: L) Ls)
    (kk : ∀ a' w' g' cap' cur', EV a' n d (putE env op.dst (.slice (some ⟨g', 0, none⟩) m cap')) → MM S w0 w' ((key, ⟨true, g', e, cur'⟩) :: L) → Rw cur' m cap' size news → wpAnyH P .any ops Q (fun w' => MM S w0 w' Ls) fuel (listed.setIfInBounds i true) a' w') : wpAnyH P .any ops Q (fun w' => MM S w0 w' Ls) (fuel + 1) listed a w := by
  refine wh_one hrd hi hw fun K hK => ?_
  unfold Oper.wp
  obtain ⟨cap', cur', hrw', hr⟩ := run_app0 (w := w) (ty := op.type) E ad m c news hm0 hl hnews h63 hbytes
  have ex : (execOp a.eval op).run P w = .ok (.value (.slice (some ⟨w.heap.size, 0, none⟩) m cap')) (w.drew.alloc (.cells cur' e)) := by
    unfold execOp
    simp only [ho, resolve, invoke, builtin, Sem.run_bind, Sem.run_pure, Result.andThen_ok, List.map_toArray, List.map_cons, List.map_nil, hs, hx, hr]
  rw [ex]
  have mm := hm.drew.alloc key e cur' hkey
  exact hK _ _ (mm.sub Ls (hSb _ _)) (kk _ _ _ _ _ (he.putO _ _ hd) mm hrw')
theorem wh_callD {i : Nat} {op : Oper} (hrd : Region.ready .any ops listed = [i]) (hi : ops[i]? = some op) (he : EV a n d env) (hm : MM S w0 w L) (key : Nat) {b : Nat} {T : TypeId} {A0 : Array Value} (hl : L.lookup key = some ⟨true, b, T, A0⟩) (hd : op.dst.all (· < n) = true) (hw : Region.wanted op (yielded ops a.tmps) = true) (f : FuncId) (args : Array Value) (hr : (execOp a.eval op).run P w = .ok (.enter f args) w)
    {v : α → Value} {A : α → Array Value} {Φ : α → Prop} (hc : Calls P f args w fun e w' => Draws w b v T A Φ e w') (hSb : ∀ x, SubL ((key, ⟨true, b, T, A x⟩) :: L) Ls)
    (k : ∀ x a' w', Φ x → EV a' n d (putE env op.dst (v x)) → MM S w0 w' ((key, ⟨true, b, T, A x⟩) :: L) → wpAnyH P .any ops Q (fun w' => MM S w0 w' Ls) fuel (listed.setIfInBounds i true) a' w') : wpAnyH P .any ops Q (fun w' => MM S w0 w' Ls) (fuel + 1) listed a w := by
  refine wh_one hrd hi hw fun K hK => ?_
  unfold Oper.wp
  rw [hr]
  refine hc.mono ?_
  rintro e w' ⟨x, rfl, hΦ, hk, hx⟩
  have mm := hm.kb1 key b T A0 (A x) hl hk hx
  exact hK _ _ (mm.sub Ls (hSb x)) (k x _ _ hΦ (he.putO _ _ hd) mm)
end
section
variable {P : Program} {ops : Array Oper} {Q : Exit → Act → World → Prop} {w w0 : World} {S : List Nat} {L Ls : List (Nat × Ent)} {a : Act}
  {n : Nat} {d : List Deferred} {env : List (Nat × Value)} {fuel : Nat} {listed : Array Bool}
end
section
variable {P : Program} {ops : Array Oper} {Q : Exit → Act → World → Prop} {op : Oper} {a : Act} {w w0 : World} {S : List Nat} {L Ls : List (Nat × Ent)} {n : Nat} {d : List Deferred} {env : List (Nat × Value)} {fuel : Nat} {listed : Array Bool} {α : Type}
theorem st_val {i : Nat} (he : EV a n d env) (hm : MM S w0 w L) (hS : SubL L Ls) (hd : op.dst.all (· < n) = true) (hw : Region.wanted op (yielded ops a.tmps) = true) (v : Value) (hy : (execOp a.eval op).run P w = .ok (.value v) w)
    (k : ∀ a', EV a' n d (putE env op.dst v) → wpAnyH P .any ops Q (fun w' => MM S w0 w' Ls) fuel (listed.setIfInBounds i true) a' w) :
    ∀ K' : Act → World → Prop, Shut (∀ a w, MM S w0 w Ls → (MM S w0 w Ls → wpAnyH P .any ops Q (fun w' => MM S w0 w' Ls) fuel (listed.setIfInBounds i true) a w) → K' a w) → if Region.wanted op (yielded ops a.tmps) = true then Oper.wp P op a w K' Q else K' (a.put op.dst undef) w := by
  intro K hK
  rw [if_pos hw]
  unfold Oper.wp
  rw [hy]
  exact hK.out _ _ (hm.sub Ls hS) fun _ => k _ (he.putO _ _ hd)
theorem st_callD {i : Nat} (he : EV a n d env) (hm : MM S w0 w L) (key : Nat) {b : Nat} {T : TypeId} {A0 : Array Value} (hl : L.lookup key = some ⟨true, b, T, A0⟩) {v : α → Value} {A : α → Array Value} {Φ : α → Prop} (hSb : ∀ x, SubL ((key, ⟨true, b, T, A x⟩) :: L) Ls) (hd : op.dst.all (· < n) = true) (hw : Region.wanted op (yielded ops a.tmps) = true) (f : FuncId) (args : Array Value) (hrun : (execOp a.eval op).run P w = .ok (.enter f args) w)
    (hc : Calls P f args w fun e w' => Draws w b v T A Φ e w')
    (k : ∀ x a' w', Φ x → EV a' n d (putE env op.dst (v x)) → MM S w0 w' ((key, ⟨true, b, T, A x⟩) :: L) → wpAnyH P .any ops Q (fun w' => MM S w0 w' Ls) fuel (listed.setIfInBounds i true) a' w') :
    ∀ K' : Act → World → Prop, Shut (∀ a w, MM S w0 w Ls → (MM S w0 w Ls → wpAnyH P .any ops Q (fun w' => MM S w0 w' Ls) fuel (listed.setIfInBounds i true) a w) → K' a w) → if Region.wanted op (yielded ops a.tmps) = true then Oper.wp P op a w K' Q else K' (a.put op.dst undef) w := by
  intro K hK
  rw [if_pos hw]
  unfold Oper.wp
  rw [hrun]
  refine hc.mono ?_
  rintro e w' ⟨x, rfl, hΦ, hk, hx⟩
  have mm := hm.kb1 key b T A0 (A x) hl hk hx
  exact hK.out _ _ (mm.sub Ls (hSb x)) fun _ => k x _ _ hΦ (he.putO _ _ hd) mm
theorem st_build {i : Nat} (he : EV a n d env) (hm : MM S w0 w L) (key : Nat) (hk : L.lookup key = none) (hd : op.dst.all (· < n) = true) (hw : Region.wanted op (yielded ops a.tmps) = true)
    (T : TypeId) (len : Nat) (parts : Array (Nat × Operand)) (ho : op.op = .buildSlice T len parts) (vs : Array (Nat × Value)) (hx : parts.map (fun (i, x) => (i, a.eval x)) = vs) (e : TypeId) (A : Array Value)
    (hrun : ∀ w, (Instr.buildSlice T len vs).run P w = .ok (.slice (some ⟨w.heap.size, 0, none⟩) len len) (w.alloc (.cells A e))) (hS : ∀ b, SubL ((key, ⟨true, b, e, A⟩) :: L) Ls)
    (k : ∀ a' w' b, EV a' n d (putE env op.dst (.slice (some ⟨b, 0, none⟩) len len)) → MM S w0 w' ((key, ⟨true, b, e, A⟩) :: L) → wpAnyH P .any ops Q (fun w' => MM S w0 w' Ls) fuel (listed.setIfInBounds i true) a' w') :
    ∀ K' : Act → World → Prop, Shut (∀ a w, MM S w0 w Ls → (MM S w0 w Ls → wpAnyH P .any ops Q (fun w' => MM S w0 w' Ls) fuel (listed.setIfInBounds i true) a w) → K' a w) → if Region.wanted op (yielded ops a.tmps) = true then Oper.wp P op a w K' Q else K' (a.put op.dst undef) w := by
  intro K hK
  rw [if_pos hw]
  unfold Oper.wp
  have : (execOp a.eval op).run P w = .ok (.value (.slice (some ⟨w.heap.size, 0, none⟩) len len)) (w.alloc (.cells A e)) := by
    unfold execOp
    simp only [ho, hx, Sem.run_bind, hrun]; rfl
  rw [this]
  have hm' := hm.alloc key e A hk
  exact hK.out _ _ (hm'.sub Ls (hS _)) fun _ => k _ _ _ (he.putO _ _ hd) hm'
end
theorem rn_slc {P : Program} {op : Oper} {a : Act} {w : World} (T : TypeId) (x hi : Operand) (ho : op.op = .slice T x none (some hi) none) (v vh u : Value) (hx : a.eval x = v) (hh : a.eval hi = vh) (hr : (Instr.sliceAt T v none (some vh) none).run P w = .ok u w) : (execOp a.eval op).run P w = .ok (.value u) w := by
  unfold execOp
  simp only [ho, hx, Option.map_none, Option.map_some, hh, Sem.run_bind, hr]; rfl
/-- One field of a struct of a row, stored. -/
theorem Rw.set1 {α : Type} {arr : α → Array Value} {sz : Nat} (h : ∀ x, (arr x).size = sz) {cur : Array Value} {n cap : Nat} {l : List α} (rw : Rw cur n cap sz (cellsOf arr l)) {i f : Nat} {x y : α} {v : Value} (hx : l[i]? = some x) (hf : f < sz) (hy : (arr y) = (arr x).setIfInBounds f v) (o : Nat) (ho : o = i * sz + f) : Rw (ovw cur o [v]) n cap sz (cellsOf arr (l.set i y)) := by
  subst ho
  have hi := (List.getElem?_eq_some_iff.1 hx).1
  have hlen := rw.len
  have hl2 := cellsOf_len h l
  have hlen2 : i * sz + sz ≤ (cellsOf arr l).length := by
    rw [cellsOf_len h, ← Nat.succ_mul]; exact Nat.mul_le_mul_right _ hi
  have hfit := rw.fit'
  have hsz : (ovw cur (i * sz + f) [v]).size = cur.size := by show (cur.setIfInBounds _ _).size = _; simp
  refine ⟨rw.le, rw.max, by rw [hsz]; exact rw.room, ?_⟩
  apply List.ext_getElem?
  intro m
  rw [List.getElem?_take]
  by_cases hm : m < n * sz
  · rw [if_pos hm, Array.getElem?_toList]
    show (cur.setIfInBounds (i * sz + f) v)[m]? = _
    have hold : ∀ m, m < n * sz → cur[m]? = (cellsOf arr l)[m]? := fun m hm => by
      rw [List.getElem?_eq_getElem (by omega : m < (cellsOf arr l).length)]
      exact rw.get _ _ (List.getElem?_eq_getElem (by omega))
    have hl3 : (l.set i y)[i]? = some y := by rw [List.getElem?_set_self hi]
    by_cases hc : i * sz ≤ m ∧ m < i * sz + sz
    · have e : m = i * sz + (m - i * sz) := by omega
      have g1 := cellsOf_get h (l.set i y) i (m - i * sz) y hl3 (by omega)
      have g0 := cellsOf_get h l i (m - i * sz) x hx (by omega)
      rw [← e] at g1 g0
      rw [g1, hy]
      by_cases e2 : m = i * sz + f
      · subst e2
        rw [Array.getElem?_setIfInBounds_self_of_lt (by omega), show i * sz + f - i * sz = f by omega, Array.getElem?_setIfInBounds_self_of_lt (by rw [h]; exact hf)]
      · rw [Array.getElem?_setIfInBounds_ne (by omega), Array.getElem?_setIfInBounds_ne (by omega), hold m hm, g0]
    · rw [Array.getElem?_setIfInBounds_ne (by omega), hold m hm]
      by_cases hlt : m < (cellsOf arr l).length
      · have hj : m / sz < l.length := by rw [cellsOf_len h] at hlt; exact Nat.div_lt_of_lt_mul (by rw [Nat.mul_comm]; exact hlt)
        have hmod : m % sz < sz := Nat.mod_lt _ (by omega)
        have hdm : m / sz * sz + m % sz = m := by rw [Nat.mul_comm]; exact Nat.div_add_mod m sz
        have hne : i ≠ m / sz := by
          intro e
          rw [e] at hc
          omega
        have g0 := cellsOf_get h l (m / sz) (m % sz) _ (List.getElem?_eq_getElem hj) hmod
        have g1 := cellsOf_get h (l.set i y) (m / sz) (m % sz) l[m / sz] (by rw [List.getElem?_set_ne hne, List.getElem?_eq_getElem hj]) hmod
        rw [hdm] at g0 g1
        rw [g0, g1]
      · rw [List.getElem?_eq_none (by omega), List.getElem?_eq_none (by rw [cellsOf_len h, List.length_set, ← cellsOf_len h]; omega)]
  · rw [if_neg hm, List.getElem?_eq_none (by rw [cellsOf_len h, List.length_set, ← cellsOf_len h]; omega)]
end Go.Proofs.YtkaekiodjjhjkaaDoor
