/- Steps: slices and builtins, rows of a call's own that grow, rows that were there, what a loop keeps. -/
import Derived.Test.YtkaekiodjjhjkaaDoorSZ
import Derived.Laws.AppendOwn
import Derived.LoopN
namespace Go.Proofs.YtkaekiodjjhjkaaDoor
open Go.RowKit
set_option linter.unusedVariables false
set_option linter.unusedSimpArgs false

def EvSub (env : List (Nat × Value)) : List (Nat × Value) → Prop
  | [] => True
  | (t, v) :: r => env.lookup t = some v ∧ EvSub env r
theorem EvSub.sub {env : List (Nat × Value)} : ∀ {env' : List (Nat × Value)}, EvSub env env' → ∀ t v, env'.lookup t = some v → env.lookup t = some v
  | [], _, t, v, h => by simp at h
  | (s, u) :: r, hs, t, v, h => by
    rw [List.lookup_cons] at h
    by_cases e : t = s
    · subst e; simp at h; subst h; exact hs.1
    · rw [show (t == s) = false by simpa using e] at h
      exact EvSub.sub hs.2 t v h
theorem EV.sub {a : Act} {n : Nat} {d : List Deferred} {env : List (Nat × Value)} (h : EV a n d env) (env' : List (Nat × Value)) (hs : EvSub env env') : EV a n d env' :=
  ⟨h.size, h.defers, fun t v hl => h.has t v (hs.sub t v hl)⟩

/-- A row of the call's own: of n elements, with room for cap, that are xs. -/
structure Rw (cur : Array Value) (n cap size : Nat) (xs : List Value) : Prop where
  le : n ≤ cap
  max : cap ≤ maxLen
  room : cur.size = cap * size
  is : cur.toList.take (n * size) = xs
theorem Rw.len {cur : Array Value} {n cap size : Nat} {xs : List Value} (h : Rw cur n cap size xs) : xs.length = n * size := by
  rw [← h.is, List.length_take, Array.length_toList, h.room]
  exact Nat.min_eq_left (Nat.mul_le_mul_right _ h.le)
theorem Rw.get {cur : Array Value} {n cap size : Nat} {xs : List Value} (h : Rw cur n cap size xs) (j : Nat) (v : Value) (hv : xs[j]? = some v) : cur[j]? = some v := by
  rw [← h.is, List.getElem?_take] at hv
  split at hv
  · simpa using hv
  · cases hv
theorem MM.setRow {S : List Nat} {w0 w : World} {L : List (Nat × Ent)} (h : MM S w0 w L) (key : Nat) (b : Nat) (T : TypeId) (A : Array Value) (hl : L.lookup key = some ⟨true, b, T, A⟩) (A' : Array Value) :
    MM S w0 (w.setRow b A') ((key, ⟨true, b, T, A'⟩) :: L) := by
  have hb := h.has key _ hl
  exact h.kb1 key b T A A' hl ⟨rfl, rfl, rfl, by simp, fun k _ hk => setRow_other w b k _ (fun e => hk (by simp [e]))⟩ (setRow_heap w b A A' T _ hb)

section
variable {P : Program} {ops : Array Oper} {Q : Exit → Act → World → Prop} {rest : List Oper} {op : Oper} {a : Act} {w w0 : World} {S : List Nat} {L : List (Nat × Ent)}
  {n : Nat} {d : List Deferred} {env : List (Nat × Value)}
theorem rn_builtin (x : Array Operand) (tys : Array TypeId) (b : Builtin) (ho : op.op = .call { callee := .builtin b, args := x, argTypes := tys }) (args : Array Value) (hx : x.map a.eval = args) (u : Value)
    (hr : (builtin b tys op.type (x.map fun | .const _ => true | _ => false) args).run P w = .ok (.value u) w) : (execOp a.eval op).run P w = .ok (.value u) w := by
  unfold execOp; simp only [ho, resolve, hx, Sem.run_bind, Sem.run_pure, Result.andThen_ok, invoke]; exact hr
theorem wl_buildSlice (he : EV a n d env) (hm : MM S w0 w L) (key : Nat) (hk : L.lookup key = none) (hd : op.dst.all (· < n) = true) (hw : Region.wanted op (yielded ops a.tmps) = true) (T : TypeId) (len : Nat) (parts : Array (Nat × Operand)) (ho : op.op = .buildSlice T len parts) (vs : Array (Nat × Value))
    (hx : parts.map (fun (i, x) => (i, a.eval x)) = vs) (e : TypeId) (A : Array Value) (hr : (Instr.buildSlice T len vs).run P w = .ok (.slice (some ⟨w.heap.size, 0, none⟩) len len) (w.alloc (.cells A e)))
    (k : ∀ a' w' b, EV a' n d (putE env op.dst (.slice (some ⟨b, 0, none⟩) len len)) → MM S w0 w' ((key, ⟨true, b, e, A⟩) :: L) → wpList P ops Q rest a' w') : wpList P ops Q (op :: rest) a w := by
  unfold wpList
  rw [if_pos hw]
  refine .inl ?_
  unfold Oper.wp
  have : (execOp a.eval op).run P w = .ok (.value (.slice (some ⟨w.heap.size, 0, none⟩) len len)) (w.alloc (.cells A e)) := by
    unfold execOp
    simp only [ho, hx, Sem.run_bind, hr]; rfl
  rw [this]
  exact k _ _ _ (he.putO _ _ hd) (hm.alloc key e A hk)
theorem pmap0 (f : Operand → Value) : (#[] : Array (Nat × Operand)).map (fun (p : Nat × Operand) => (p.1, f p.2)) = #[] := by simp

/-- What is asked of the type of a row's elements. -/
structure ElT (P : Program) (t e : TypeId) (z : Value) (size bytes : Nat) : Prop where
  und : P.underlying t = some (.slice e)
  info : (P.info? e).map (fun i => (i.zero, i.size, i.bytes)) = some (some z, size, bytes)
  zs : z.cells.size = size
  pos : 0 < size
theorem ElT.get {P : Program} {t e : TypeId} {z : Value} {size bytes : Nat} (E : ElT P t e z size bytes) : ∃ i, P.info? e = some i ∧ i.zero = some z ∧ i.size = size ∧ i.bytes = bytes := by
  have := E.info
  cases h : P.info? e with
  | none => simp [h] at this
  | some i =>
    rw [h] at this
    simp only [Option.map_some, Option.some.injEq, Prod.mk.injEq] at this
    exact ⟨i, rfl, this.1, this.2.1, this.2.2⟩
theorem run_app {t ty e : TypeId} {z : Value} {size bytes : Nat} (E : ElT P t e z size bytes) (g cap k : Nat) (cur : Array Value) (xs : List Value) (hb : BX w g e cur) (hrw : Rw cur k cap size xs)
    (ad : Addr) (m c : Nat) (news : List Value) (hl : news.length = m * size) (hnews : ∀ j u, news[j]? = some u → w.cell? (ad.add j) = some u) (h1 : ∀ u ∈ news, u.oneCell' = true)
    (h63 : k + m ≤ maxLen) (hbytes : (k + m) * bytes ≤ 140737488355328) :
    (∃ cur', Rw cur' (k + m) cap size (xs ++ news) ∧ (Builtin.append_ #[t, t] ty #[.slice (some ⟨g, 0, none⟩) k cap, .slice (some ad) m c]).run P w = .ok (.slice (some ⟨g, 0, none⟩) (k + m) cap) (w.setRow g cur')) ∨
    (∃ cap' cur', Rw cur' (k + m) cap' size (xs ++ news) ∧ (Builtin.append_ #[t, t] ty #[.slice (some ⟨g, 0, none⟩) k cap, .slice (some ad) m c]).run P w = .ok (.slice (some ⟨w.heap.size, 0, none⟩) (k + m) cap') (w.drew.alloc (.cells cur' e))) := by
  obtain ⟨i, hi, hz, rfl, rfl⟩ := E.get
  have ht := E.und
  have hzs := E.zs
  have hsz := E.pos
  have hlen : (xs ++ news).length = (k + m) * i.size := by rw [List.length_append, hrw.len, hl, Nat.add_mul]
  have hsmall : k + m ≤ 9223372036854775807 := by simp only [maxLen] at h63; omega
  by_cases hroom : k + m ≤ cap
  · left
    have hfit : k * i.size + news.length ≤ cur.size := by rw [hl, hrw.room, ← Nat.add_mul]; exact Nat.mul_le_mul_right _ hroom
    refine ⟨_, ⟨hroom, hrw.max, ?_, ?_⟩, run_append_room (P := P) w t ty e i ht hi g k cap cur hb ad m c news hl hnews h1 hroom hfit⟩
    · have := hrw.room
      simp only [List.size_toArray, List.length_append, List.length_take, List.length_drop, Array.length_toList]
      omega
    · simp only
      rw [hrw.is, ← hlen]
      exact List.take_left
  · right
    have hge := grownCap_ge w (k + m) cap e
    have hcm : grownCap w (k + m) cap e ≤ maxLen := grownCap_le_maxLen w (k + m) cap e h63
    have holds : ∀ j u, xs[j]? = some u → w.cell? ((⟨g, 0, none⟩ : Addr).add j) = some u := fun j u hu => by
      rw [Addr.add_mid, Nat.zero_add, hb.cell]; exact hrw.get j u hu
    refine ⟨_, _, ⟨hge, hcm, ?_, ?_⟩, run_append_grow (P := P) w t ty e i z ht hi hz ⟨g, 0, none⟩ k cap xs hrw.len holds ad m c news hl hnews (by omega) (by omega) (growslice_fits (by omega) hbytes)⟩
    · simp only [Array.size_append, List.size_toArray, size_zeroCells, hzs, hrw.len, hl, ← Nat.add_mul]
      congr 1
      omega
    · simp only [Array.toList_append, List.append_assoc]
      rw [← List.append_assoc, ← hlen]
      exact List.take_left
theorem run_app0 {t ty e : TypeId} {z : Value} {size bytes : Nat} (E : ElT P t e z size bytes)
    (ad : Addr) (m c : Nat) (news : List Value) (hm0 : 0 < m) (hl : news.length = m * size) (hnews : ∀ j u, news[j]? = some u → w.cell? (ad.add j) = some u)
    (h63 : m ≤ maxLen) (hbytes : m * bytes ≤ 140737488355328) :
    ∃ cap' cur', Rw cur' m cap' size news ∧ (Builtin.append_ #[t, t] ty #[.slice none 0 0, .slice (some ad) m c]).run P w = .ok (.slice (some ⟨w.heap.size, 0, none⟩) m cap') (w.drew.alloc (.cells cur' e)) := by
  obtain ⟨i, hi, hz, rfl, rfl⟩ := E.get
  have ht := E.und
  have hzs := E.zs
  have hsz := E.pos
  have hsmall : m ≤ 9223372036854775807 := by simp only [maxLen] at h63; omega
  have hge := grownCap_ge w m 0 e
  have hcm : grownCap w m 0 e ≤ maxLen := grownCap_le_maxLen w m 0 e h63
  refine ⟨_, _, ⟨hge, hcm, ?_, ?_⟩, run_append_nil (P := P) w t ty e i z ht hi hz ad m c news hl hnews (by omega) (by omega) (by omega)⟩
  · simp only [Array.size_append, List.size_toArray, size_zeroCells, hzs, hl]
    rw [← Nat.add_mul]
    congr 1
    omega
  · simp only [Array.toList_append]
    rw [← hl]
    exact List.take_left
theorem wl_append (he : EV a n d env) (hm : MM S w0 w L) (key : Nat) {g : Nat} {e : TypeId} {cur : Array Value} (hlk : L.lookup key = some ⟨true, g, e, cur⟩) (hd : op.dst.all (· < n) = true) (hw : Region.wanted op (yielded ops a.tmps) = true) (s x : Operand) (t : TypeId)
    (ho : op.op = .call { callee := .builtin .append, args := #[s, x], argTypes := #[t, t] }) {z : Value} {size bytes : Nat} (E : ElT P t e z size bytes) {k cap : Nat} (hs : a.eval s = .slice (some ⟨g, 0, none⟩) k cap) {xs : List Value} (hrw : Rw cur k cap size xs)
    (ad : Addr) (m c : Nat) (hx : a.eval x = .slice (some ad) m c) (news : List Value) (hl : news.length = m * size) (hnews : ∀ j u, news[j]? = some u → w.cell? (ad.add j) = some u) (h1 : ∀ u ∈ news, u.oneCell' = true)
    (h63 : k + m ≤ maxLen) (hbytes : (k + m) * bytes ≤ 140737488355328)
    (kk : ∀ a' w' g' cap' cur', EV a' n d (putE env op.dst (.slice (some ⟨g', 0, none⟩) (k + m) cap')) → MM S w0 w' ((key, ⟨true, g', e, cur'⟩) :: L) → Rw cur' (k + m) cap' size (xs ++ news) → wpList P ops Q rest a' w') : wpList P ops Q (op :: rest) a w := by
  unfold wpList
  rw [if_pos hw]
  refine .inl ?_
  have ex : ∀ v w', (Builtin.append_ #[t, t] op.type #[.slice (some ⟨g, 0, none⟩) k cap, .slice (some ad) m c]).run P w = .ok v w' → (execOp a.eval op).run P w = .ok (.value v) w' := fun v w' hr => by
    unfold execOp
    simp only [ho, resolve, invoke, builtin, Sem.run_bind, Sem.run_pure, Result.andThen_ok, List.map_toArray, List.map_cons, List.map_nil, hs, hx, hr]
  unfold Oper.wp
  rcases run_app (ty := op.type) E g cap k cur xs (hm.has key _ hlk) hrw ad m c news hl hnews h1 h63 hbytes with ⟨cur', hrw', hr⟩ | ⟨cap', cur', hrw', hr⟩
  · rw [ex _ _ hr]
    exact kk _ _ _ _ _ (he.putO _ _ hd) (hm.setRow key g e cur hlk cur') hrw'
  · rw [ex _ _ hr]
    refine kk _ _ _ _ _ (he.putO _ _ hd) ?_ hrw'
    have h0 := hm.drew
    have hs' : w.drew.heap.size = w.heap.size := rfl
    have old : ∀ k, k < w.heap.size → (w.drew.alloc (.cells cur' e)).heap[k]? = w.heap[k]? := fun k hk => Below.heap_alloc w.drew _ _ hk
    refine ⟨⟨h0.keep.os, h0.keep.tape, h0.keep.output, by simp; exact Nat.le_succ_of_le h0.keep.size, fun k hk hS => (old k (Nat.lt_of_lt_of_le hk h0.keep.size)).trans (h0.keep.block k hk hS)⟩, ?_, ?_, ?_⟩
    · intro k2 e2 hk2
      rw [lk] at hk2
      split at hk2
      · cases hk2; exact World.alloc_heap_new w.drew _
      · have := hm.has k2 e2 hk2; exact (old e2.b this.lt).trans this
    · intro k2 e2 hk2 ho2
      rw [lk] at hk2
      split at hk2
      · cases hk2; exact .inl hm.keep.size
      · exact hm.own k2 e2 hk2 ho2
    · intro j2 k2 e2 f2 hj2 hk2 hne ho2
      rw [lk] at hj2 hk2
      split at hj2 <;> split at hk2
      · rename_i q1 q2; exact absurd (q1.trans q2.symm) hne
      · cases hj2; have := (hm.has k2 f2 hk2).lt; simp; omega
      · cases hk2; have := (hm.has j2 e2 hj2).lt; simp; omega
      · exact hm.apart j2 k2 e2 f2 hj2 hk2 hne ho2
theorem wl_append0 (he : EV a n d env) (hm : MM S w0 w L) (key : Nat) (hkey : L.lookup key = none) (hd : op.dst.all (· < n) = true) (hw : Region.wanted op (yielded ops a.tmps) = true) (s x : Operand) (t : TypeId)
    (ho : op.op = .call { callee := .builtin .append, args := #[s, x], argTypes := #[t, t] }) {e : TypeId} {z : Value} {size bytes : Nat} (E : ElT P t e z size bytes) (hs : a.eval s = .slice none 0 0)
    (ad : Addr) (m c : Nat) (hx : a.eval x = .slice (some ad) m c) (hm0 : 0 < m) (news : List Value) (hl : news.length = m * size) (hnews : ∀ j u, news[j]? = some u → w.cell? (ad.add j) = some u)
    (h63 : m ≤ maxLen) (hbytes : m * bytes ≤ 140737488355328)
    (kk : ∀ a' w' g' cap' cur', EV a' n d (putE env op.dst (.slice (some ⟨g', 0, none⟩) m cap')) → MM S w0 w' ((key, ⟨true, g', e, cur'⟩) :: L) → Rw cur' m cap' size news → wpList P ops Q rest a' w') : wpList P ops Q (op :: rest) a w := by
  unfold wpList
  rw [if_pos hw]
  refine .inl ?_
  unfold Oper.wp
  obtain ⟨cap', cur', hrw', hr⟩ := run_app0 (w := w) (ty := op.type) E ad m c news hm0 hl hnews h63 hbytes
  have ex : (execOp a.eval op).run P w = .ok (.value (.slice (some ⟨w.heap.size, 0, none⟩) m cap')) (w.drew.alloc (.cells cur' e)) := by
    unfold execOp
    simp only [ho, resolve, invoke, builtin, Sem.run_bind, Sem.run_pure, Result.andThen_ok, List.map_toArray, List.map_cons, List.map_nil, hs, hx, hr]
  rw [ex]
  exact kk _ _ _ _ _ (he.putO _ _ hd) (hm.drew.alloc key e cur' hkey) hrw'
/-- A row that was there ahead of the call: its cells from p on. -/
def RowAt (w : World) (b p n sz : Nat) (f : Nat → Array Value) : Prop := b < w.heap.size ∧ ∀ i, i < n → ∀ j, j < sz → w.cell? ⟨b, p + i * sz + j, none⟩ = (f i)[j]? ∧ j < (f i).size
theorem RowAt.kb {w w' : World} {b p n sz : Nat} {f : Nat → Array Value} (h : RowAt w b p n sz f) {S : List Nat} (k : KB S w w') (hb : b ∉ S) : RowAt w' b p n sz f :=
  ⟨Nat.lt_of_lt_of_le h.1 k.size, fun i hi j hj => by rw [World.cell?_of_block (k.block b h.1 hb)]; exact h.2 i hi j hj⟩
theorem rn_row1 (hm : MM S w0 w L) {b p m sz : Nat} {f : Nat → Array Value} (hr : RowAt w0 b p m sz f) (hb : b ∉ S) (i : Nat) (hi : i < m) (j : Nat) (hj : j < sz) (T : TypeId) (x : Operand) (ho : op.op = .load T x)
    (hx : a.eval x = .pointer (some ⟨b, p + i * sz + j, none⟩)) (hT : OneT P T) (v : Value) (hv : (f i)[j]? = some v) : (execOp a.eval op).run P w = .ok (.value v) w := by
  have hc : w.cell? ⟨b, p + i * sz + j, none⟩ = some v := (((hr.kb hm.keep hb).2 i hi j hj).1).trans hv
  unfold execOp
  simp only [ho, hx, Instr.loadAt, Instr.sureAddr, loadVar, Sem.run_bind, Sem.run_pure, Result.andThen_ok, hT.agg, run_load, hc, Bool.false_eq_true, if_false]
theorem rn_rowA (hm : MM S w0 w L) {b p m sz : Nat} {f : Nat → Array Value} (hr : RowAt w0 b p m sz f) (hb : b ∉ S) (i : Nat) (hi : i < m) (T : TypeId) (x : Operand) (ho : op.op = .load T x)
    (hx : a.eval x = .pointer (some ⟨b, p + i * sz, none⟩)) (hT : AggT P T sz) (hz : (f i).size = sz) : (execOp a.eval op).run P w = .ok (.value (.agg (f i))) w := by
  have hr' := hr.kb hm.keep hb
  have hl : (loadCells ⟨b, p + i * sz, none⟩ sz).run P w = .ok (f i) w := by
    have := run_loadCells_list (P := P) w ⟨b, p + i * sz, none⟩ (f i).toList (fun j v hv => by
      rw [Addr.add_mid]
      have hj : j < sz := by
        have := (List.getElem?_eq_some_iff.1 hv).1
        simp at this; omega
      rw [(hr'.2 i hi j hj).1]; simpa using hv)
    simpa [hz] using this
  unfold execOp
  simp only [ho, hx, Instr.loadAt, Instr.sureAddr, loadVar, Sem.run_bind, Sem.run_pure, Result.andThen_ok, hT.agg, hT.size, hl, if_true]
end
theorem ixS {P : Program} {T : TypeId} (el : TypeId) (sz : Nat) (hT : P.underlying T = some (.slice el)) (hs : ∀ w, (sizeOf el).run P w = .ok sz w) (b p n c i : Nat) (hi : i < n) (w : World) :
    (Instr.indexAt T (.slice (some ⟨b, p, none⟩) n c) (.int .i64 (i : Nat))).run P w = .ok (.pointer (some ⟨b, p + i * sz, none⟩)) w := by
  have h1 : (0 : Int) ≤ (i : Int) ∧ (i : Int) < (n : Int) := ⟨by omega, by omega⟩
  simp [Instr.indexAt, asIntOf, underlying, hT, Sem.run_bind, h1, hs, Result.andThen]
  rw [if_pos (by omega)]
  simp [hs, Result.andThen, Addr.add_mid, Sem.run_bind]
theorem addN {i c : Nat} (h : i + c ≤ 9223372036854775807) : Value.int .i64 (IntKind.i64.wrap ((i : Int) + (c : Int))) = .int .i64 ((i + c : Nat) : Int) := by
  rw [show IntKind.i64.wrap ((i : Int) + (c : Int)) = ((i + c : Nat) : Int) by rw [IntKind.wrap_i64]; omega]
theorem rounds_normal {P : Program} {c : Code} {Q : Exit → Act → World → Prop} {k : Nat} {a : Act} {w : World} (h : Code.rounds P c Q k a w) : Exit.then (Code.rounds P c Q k) Q .normal a w := h
end Go.Proofs.YtkaekiodjjhjkaaDoor
