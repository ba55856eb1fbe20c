/- Steps: the beginning and the end of a call, calls by their slots. -/
import Derived.Test.YtkaekiodjjhjkaaDoorSX
namespace Go.Proofs.YtkaekiodjjhjkaaDoor
open Go.RowKit
set_option linter.unusedVariables false
set_option linter.unusedSimpArgs false

def EnvOk (l : Array Value) : List (Nat × Value) → Prop
  | [] => True
  | (t, v) :: r => l[t]? = some v ∧ EnvOk l r
theorem EnvOk.mem {l : Array Value} : ∀ {env : List (Nat × Value)}, EnvOk l env → ∀ p ∈ env, l[p.1]? = some p.2
  | [], _, _, hp => by simp at hp
  | (t, v) :: r, h, p, hp => by
    rcases List.mem_cons.1 hp with rfl | hp
    · exact h.1
    · exact EnvOk.mem h.2 p hp
theorem calls_begin {P : Program} {f : FuncId} {fn : Func} {c : Code} {args : Array Value} {w : World} {R : Ending → World → Prop} (hf : P.funcs[f]? = some fn) (hb : fn.body = some c)
    (n : Nat) (hn : fn.ntmps = n) (hsz : args.size ≤ n) (env : List (Nat × Value)) (henv : EnvOk args env)
    (h : ∀ a, EV a n [] env → MM [] w w [] → c.wp P (bodyPost P fn R) a w) : Calls P f args w R := by
  refine calls_of_wp hf hb (h _ (EV.begin _ _ _ (by simp; omega) env fun p hp => ?_) (MM.nil w))
  have := henv.mem p hp
  have hlt : p.1 < args.size := by
    rcases Nat.lt_or_ge p.1 args.size with h | h
    · exact h
    · simp [Array.getElem?_eq_none h] at this
  rw [Array.getElem?_append_left hlt]; exact this
theorem map0 (f : Operand → Value) : (#[] : Array Operand).map f = #[] := by simp
theorem map1 {f : Operand → Value} {x : Operand} {u : Value} (h : f x = u) : #[x].map f = #[u] := by simp [h]
theorem map2 {f : Operand → Value} {x y : Operand} {u v : Value} (h : f x = u) (h2 : f y = v) : #[x, y].map f = #[u, v] := by simp [h, h2]
theorem map3 {f : Operand → Value} {x y z : Operand} {u v t : Value} (h : f x = u) (h2 : f y = v) (h3 : f z = t) : #[x, y, z].map f = #[u, v, t] := by simp [h, h2, h3]
theorem map4 {f : Operand → Value} {x y z x4 : Operand} {u v t u4 : Value} (h : f x = u) (h2 : f y = v) (h3 : f z = t) (h4 : f x4 = u4) : #[x, y, z, x4].map f = #[u, v, t, u4] := by simp [h, h2, h3, h4]
theorem map5 {f : Operand → Value} {x y z x4 x5 : Operand} {u v t u4 u5 : Value} (h : f x = u) (h2 : f y = v) (h3 : f z = t) (h4 : f x4 = u4) (h5 : f x5 = u5) : #[x, y, z, x4, x5].map f = #[u, v, t, u4, u5] := by simp [h, h2, h3, h4, h5]
theorem map6 {f : Operand → Value} {x y z x4 x5 x6 : Operand} {u v t u4 u5 u6 : Value} (h : f x = u) (h2 : f y = v) (h3 : f z = t) (h4 : f x4 = u4) (h5 : f x5 = u5) (h6 : f x6 = u6) : #[x, y, z, x4, x5, x6].map f = #[u, v, t, u4, u5, u6] := by simp [h, h2, h3, h4, h5, h6]
theorem map7 {f : Operand → Value} {x y z x4 x5 x6 x7 : Operand} {u v t u4 u5 u6 u7 : Value} (h : f x = u) (h2 : f y = v) (h3 : f z = t) (h4 : f x4 = u4) (h5 : f x5 = u5) (h6 : f x6 = u6) (h7 : f x7 = u7) : #[x, y, z, x4, x5, x6, x7].map f = #[u, v, t, u4, u5, u6, u7] := by simp [h, h2, h3, h4, h5, h6, h7]

section
variable {P : Program} {op : Oper} {a : Act} {w w0 : World} {S : List Nat} {L : List (Nat × Ent)} {n : Nat} {d : List Deferred} {env : List (Nat × Value)} {fn : Func}
theorem enter_call (cal : Operand) (x : Array Operand) (tys : Array TypeId) (ho : op.op = .call { callee := .value cal, args := x, argTypes := tys }) (f : FuncId) (first cap : Array Value) (hcal : a.eval cal = .func (.func f) first cap)
    (args0 : Array Value) (hx : x.map a.eval = args0) (args : Array Value) (hargs : first ++ args0 ++ cap = args) (hf : ∀ args w, (callFunc f args).run P w = .ok (.enter f args) w) : (execOp a.eval op).run P w = .ok (.enter f args) w := by
  unfold execOp
  simp only [ho, resolve, hcal, hx, Deferred.ofValue, Sem.run_bind, Sem.run_pure, Result.andThen_ok, invoke, hargs, hf]
theorem results_cell (he : EV a n d env) (hm : MM S w0 w L) (t : Tmp) (T : TypeId) (hres : fn.results = #[.cell t T]) (b : Nat) (hl : env.lookup t = some (.pointer (some ⟨b, 0, none⟩))) (key : Nat) {o : Bool} {T0 : TypeId} {A : Array Value}
    (hk : L.lookup key = some ⟨o, b, T0, A⟩) (m : Nat) (hT : AggT P T m) (hz : A.size = m) : (results fn a.tmps).run P w = .ok (.agg A) w := by
  have hb := hm.has key _ hk
  have hr := World.rangeAt_of_block (w := w) (b := b) (C := A) (t := T0) (fr := (0, 0)) hb 0 m
  have hC : A.extract 0 (0 + m) = A := by rw [Nat.zero_add, ← hz]; exact Array.extract_size
  have hll : (loadCells ⟨b, 0, none⟩ m).run P w = .ok A w := by
    have := run_loadCells_list (P := P) w ⟨b, 0, none⟩ (A.extract 0 (0 + m)).toList (fun j v hv => by rw [Addr.add_mid]; exact hr j v hv)
    rw [hC] at this
    simpa [hz] using this
  simp only [results, hres]
  simp [he.has t _ hl, he.at t _ hl, asAddr, loadVar, Sem.run_bind, hT.agg, hT.size, hll, Result.andThen]
theorem results_tmp (he : EV a n d env) (t : Tmp) (hres : fn.results = #[.tmp t]) (v : Value) (hl : env.lookup t = some v) : (results fn a.tmps).run P w = .ok v w := by
  simp only [results, hres]
  simp [he.has t _ hl, he.at t _ hl, Sem.run_bind, Result.andThen]
theorem results_none (hres : fn.results = #[]) : (results fn a.tmps).run P w = .ok (.tuple #[]) w := by
  simp only [results, hres]
  simp [Sem.run_bind, Result.andThen]
theorem results_tmp2 (he : EV a n d env) (t u : Tmp) (hres : fn.results = #[.tmp t, .tmp u]) (v x : Value) (hl : env.lookup t = some v) (hl2 : env.lookup u = some x) : (results fn a.tmps).run P w = .ok (.tuple #[v, x]) w := by
  simp only [results, hres]
  simp [he.has t _ hl, he.at t _ hl, he.has u _ hl2, he.at u _ hl2, Sem.run_bind, Result.andThen]
theorem results_cell_t (he : EV a n d env) (hm : MM S w0 w L) (t : Tmp) (T : TypeId) (u : Tmp) (hres : fn.results = #[.cell t T, .tmp u]) (b : Nat) (hl : env.lookup t = some (.pointer (some ⟨b, 0, none⟩))) (key : Nat) {o : Bool} {T0 : TypeId} {A : Array Value}
    (hk : L.lookup key = some ⟨o, b, T0, A⟩) (m : Nat) (hT : AggT P T m) (hz : A.size = m) (v : Value) (hu : env.lookup u = some v) : (results fn a.tmps).run P w = .ok (.tuple #[.agg A, v]) w := by
  have hb := hm.has key _ hk
  have hr := World.rangeAt_of_block (w := w) (b := b) (C := A) (t := T0) (fr := (0, 0)) hb 0 m
  have hC : A.extract 0 (0 + m) = A := by rw [Nat.zero_add, ← hz]; exact Array.extract_size
  have hll : (loadCells ⟨b, 0, none⟩ m).run P w = .ok A w := by
    have := run_loadCells_list (P := P) w ⟨b, 0, none⟩ (A.extract 0 (0 + m)).toList (fun j v hv => by rw [Addr.add_mid]; exact hr j v hv)
    rw [hC] at this
    simpa [hz] using this
  rw [results_cell_tmp hres]
  simp [he.has t _ hl, he.at t _ hl, he.at u _ hu, asAddr, loadVar, Sem.run_bind, hT.agg, hT.size, hll, Result.andThen]
theorem results_cell_c (he : EV a n d env) (hm : MM S w0 w L) (t : Tmp) (T : TypeId) (u : Tmp) (U : TypeId) (hres : fn.results = #[.cell t T, .cell u U]) (b : Nat) (hl : env.lookup t = some (.pointer (some ⟨b, 0, none⟩))) (key : Nat) {o : Bool} {T0 : TypeId} {A : Array Value}
    (hk : L.lookup key = some ⟨o, b, T0, A⟩) (m : Nat) (hT : AggT P T m) (hz : A.size = m) (b2 : Nat) (hl2 : env.lookup u = some (.pointer (some ⟨b2, 0, none⟩))) (key2 : Nat) {o2 : Bool} {T2 : TypeId} {A2 : Array Value}
    (hk2 : L.lookup key2 = some ⟨o2, b2, T2, A2⟩) (m2 : Nat) (hT2 : AggT P U m2) (hz2 : A2.size = m2) : (results fn a.tmps).run P w = .ok (.tuple #[.agg A, .agg A2]) w := by
  have go : ∀ (b : Nat) (T0 : TypeId) (A : Array Value) (m : Nat), BX w b T0 A → A.size = m → (loadCells ⟨b, 0, none⟩ m).run P w = .ok A w := by
    intro b T0 A m hb hz
    have hr := World.rangeAt_of_block (w := w) (b := b) (C := A) (t := T0) (fr := (0, 0)) hb 0 m
    have hC : A.extract 0 (0 + m) = A := by rw [Nat.zero_add, ← hz]; exact Array.extract_size
    have := run_loadCells_list (P := P) w ⟨b, 0, none⟩ (A.extract 0 (0 + m)).toList (fun j v hv => by rw [Addr.add_mid]; exact hr j v hv)
    rw [hC] at this
    simpa [hz] using this
  simp only [results, hres]
  simp [he.has t _ hl, he.at t _ hl, he.has u _ hl2, he.at u _ hl2, asAddr, loadVar, Sem.run_bind, hT.agg, hT.size, hT2.agg, hT2.size, go _ _ _ _ (hm.has key _ hk) hz, go _ _ _ _ (hm.has key2 _ hk2) hz2, Result.andThen]
end
/-- What a function that may panic with a trap answers. -/
theorem callsV {P : Program} {f : FuncId} {args : Array Value} {w : World} {u v : Value} (h : u = v) (c : Calls P f args w fun e w' => e = .returned u ∧ Below w.heap.size w w') : Calls P f args w fun e w' => e = .returned v ∧ Below w.heap.size w w' := h ▸ c
theorem callsS {P : Program} {f : FuncId} {args : Array Value} {w : World} {u : Value} (c : Calls P f args w fun e w' => e = .returned u ∧ w' = w) : Calls P f args w fun e w' => e = .returned u ∧ Below w.heap.size w w' :=
  c.mono fun e w' ⟨h1, h2⟩ => ⟨h1, h2 ▸ Below.refl _ _⟩
end Go.Proofs.YtkaekiodjjhjkaaDoor
