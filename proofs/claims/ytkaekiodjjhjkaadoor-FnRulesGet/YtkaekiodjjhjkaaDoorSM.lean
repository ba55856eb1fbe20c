/- Steps: rows of structs as lists; calls that change a row of the caller's. -/
import Derived.Test.YtkaekiodjjhjkaaDoorSU
namespace Go.Proofs.YtkaekiodjjhjkaaDoor
open Go.RowKit
set_option linter.unusedVariables false
set_option linter.unusedSimpArgs false
theorem pmap4 {f : Operand → Value} {i j k l : Nat} {x y z q : Operand} {u v t r : Value} (h : f x = u) (h2 : f y = v) (h3 : f z = t) (h4 : f q = r) : #[(i, x), (j, y), (k, z), (l, q)].map (fun (p : Nat × Operand) => (p.1, f p.2)) = #[(i, u), (j, v), (k, t), (l, r)] := by simp [h, h2, h3, h4]
theorem pmap5 {f : Operand → Value} {i j k l m : Nat} {x y z q o : Operand} {u v t r s : Value} (h : f x = u) (h2 : f y = v) (h3 : f z = t) (h4 : f q = r) (h5 : f o = s) : #[(i, x), (j, y), (k, z), (l, q), (m, o)].map (fun (p : Nat × Operand) => (p.1, f p.2)) = #[(i, u), (j, v), (k, t), (l, r), (m, s)] := by simp [h, h2, h3, h4, h5]
theorem one9 : OneT Tryd.prog 9 := ⟨fun w => by kernel_rfl, fun w => by kernel_rfl⟩
theorem el9 : ElT Tryd.prog 47 9 (.string ⟨#[]⟩) 1 16 := ⟨by kernel_rfl, by kernel_rfl, by kernel_rfl, by decide⟩
/-- The cells of a list of structs. -/
def cellsOf {α : Type} (arr : α → Array Value) (l : List α) : List Value := l.flatMap fun x => (arr x).toList
section
variable {α : Type} {arr : α → Array Value} {sz : Nat}
theorem cellsOf_cons (x : α) (l : List α) : cellsOf arr (x :: l) = (arr x).toList ++ cellsOf arr l := rfl
theorem cellsOf_len (h : ∀ x, (arr x).size = sz) : ∀ (l : List α), (cellsOf arr l).length = l.length * sz
  | [] => by simp [cellsOf]
  | x :: l => by
    rw [cellsOf_cons, List.length_append, cellsOf_len h l, Array.length_toList, h x, List.length_cons, Nat.succ_mul]; omega
theorem cellsOf_app (a b : List α) : cellsOf arr (a ++ b) = cellsOf arr a ++ cellsOf arr b := by
  unfold cellsOf; rw [List.flatMap_append]
theorem cellsOf_one (h : ∀ x, (arr x).all (·.oneCell') = true) (l : List α) : ∀ u ∈ cellsOf arr l, u.oneCell' = true := by
  intro u hu
  unfold cellsOf at hu
  obtain ⟨x, _, hx⟩ := List.mem_flatMap.1 hu
  exact (Array.all_eq_true_iff_forall_mem.1 (h x)) u (by simpa using hx)
theorem cellsOf_get (h : ∀ x, (arr x).size = sz) : ∀ (l : List α) (i j : Nat) (x : α), l[i]? = some x → j < sz → (cellsOf arr l)[i * sz + j]? = (arr x)[j]?
  | [], i, j, x, hx, _ => by simp at hx
  | y :: l, 0, j, x, hx, hj => by
    obtain rfl : y = x := by simpa using hx
    rw [cellsOf_cons, Nat.zero_mul, Nat.zero_add, List.getElem?_append_left (by rw [Array.length_toList, h]; exact hj), Array.getElem?_toList]
  | y :: l, i + 1, j, x, hx, hj => by
    rw [cellsOf_cons, List.getElem?_append_right (by rw [Array.length_toList, h, Nat.succ_mul]; omega), Array.length_toList, h, show (i + 1) * sz + j - sz = i * sz + j by rw [Nat.succ_mul]; omega]
    exact cellsOf_get h l i j x (by simpa using hx) hj
theorem Rw.lits (h : ∀ x, (arr x).size = sz) (l : List α) (hl : l.length ≤ maxLen) : Rw (cellsOf arr l).toArray l.length l.length sz (cellsOf arr l) :=
  ⟨Nat.le_refl _, hl, by rw [List.size_toArray, cellsOf_len h], by rw [← cellsOf_len h l]; simp⟩
theorem Rw.rowAt (h : ∀ x, (arr x).size = sz) {w : World} {b n cap : Nat} {T : TypeId} {cur : Array Value} {l : List α} (d : α) (rw : Rw cur n cap sz (cellsOf arr l)) (hn : n = l.length) (hx : BX w b T cur) : RowAt w b 0 n sz fun i => arr (l.getD i d) := by
  subst hn
  refine ⟨hx.lt, fun i hi j hj => ⟨?_, by rw [h]; exact hj⟩⟩
  have hg := cellsOf_get h l i j _ (List.getElem?_eq_getElem hi) hj
  show w.cell? ⟨b, 0 + i * sz + j, none⟩ = (arr (l.getD i d))[j]?
  rw [hx.cell, Nat.zero_add, List.getD_eq_getElem?_getD, List.getElem?_eq_getElem hi, Option.getD_some, ← hg]
  have hlt : i * sz + j < (cellsOf arr l).length := by
    rw [cellsOf_len h]
    have := Nat.mul_le_mul_right sz (show i + 1 ≤ l.length from hi)
    rw [Nat.succ_mul] at this; omega
  rw [List.getElem?_eq_getElem hlt]
  exact rw.get _ _ (List.getElem?_eq_getElem hlt)
end
theorem Rw.fit' {cur : Array Value} {n cap sz : Nat} {xs : List Value} (h : Rw cur n cap sz xs) : n * sz ≤ cur.size := by
  rw [h.room]; exact Nat.mul_le_mul_right _ h.le
theorem Rw.app {α : Type} {arr : α → Array Value} {sz n cap : Nat} {cur : Array Value} {a b : List α} (h : Rw cur n cap sz (cellsOf arr a ++ cellsOf arr b)) : Rw cur n cap sz (cellsOf arr (a ++ b)) := by rw [cellsOf_app]; exact h
theorem Rw.cast {cur : Array Value} {n m cap sz : Nat} {x y : List Value} (h : Rw cur n cap sz x) (e : n = m) (e2 : x = y) : Rw cur m cap sz y := by subst e; subst e2; exact h
section
variable {P : Program} {ops : Array Oper} {Q : Exit → Act → World → Prop} {rest : List Oper} {op : Oper} {a : Act} {w w0 : World} {S : List Nat} {L : List (Nat × Ent)}
  {n : Nat} {d : List Deferred} {env : List (Nat × Value)}
theorem wl_callK (he : EV a n d env) (hm : MM S w0 w L) (key : Nat) {b : Nat} {T : TypeId} {A A' : Array Value} (hl : L.lookup key = some ⟨true, b, T, A⟩) (hd : op.dst.all (· < n) = true) (hw : Region.wanted op (yielded ops a.tmps) = true) (f : FuncId) (args : Array Value) (hr : (execOp a.eval op).run P w = .ok (.enter f args) w) (v : Value)
    (hc : Calls P f args w fun e w' => e = .returned v ∧ KB [b] w w' ∧ BX w' b T A')
    (k : ∀ a' w', EV a' n d (putE env op.dst v) → MM S w0 w' ((key, ⟨true, b, T, A'⟩) :: L) → wpList P ops Q rest a' w') : wpList P ops Q (op :: rest) a w := by
  unfold wpList
  rw [if_pos hw]
  refine .inl ?_
  unfold Oper.wp
  rw [hr]
  refine hc.mono ?_
  rintro e w' ⟨rfl, hk, hx⟩
  exact k _ _ (he.putO _ _ hd) (hm.kb1 key b T A A' hl hk hx)
end
section
variable {P : Program} {ops : Array Oper} {Q : Exit → Act → World → Prop} {op : Oper} {a : Act} {w w0 : World} {S : List Nat} {L Ls : List (Nat × Ent)} {n : Nat} {d : List Deferred} {env : List (Nat × Value)} {fuel : Nat} {listed : Array Bool} {α : Type}
theorem st_callN {i : Nat} (he : EV a n d env) (hm : MM S w0 w L) (key : Nat) (hk : L.lookup key = none) {v : α → Nat → Value} {T : TypeId} {A : α → Array Value} {Φ : α → Prop} (hS : ∀ x b, SubL ((key, ⟨true, b, T, A x⟩) :: L) Ls) (hd : op.dst.all (· < n) = true) (hw : Region.wanted op (yielded ops a.tmps) = true) (f : FuncId) (args : Array Value) (hrun : (execOp a.eval op).run P w = .ok (.enter f args) w)
    (hc : Calls P f args w fun e w' => NewRow w v T A Φ e w')
    (k : ∀ x b a' w', Φ x → EV a' n d (putE env op.dst (v x b)) → MM S w0 w' ((key, ⟨true, b, T, A x⟩) :: L) → wpAnyH P .any ops Q (fun w' => MM S w0 w' Ls) fuel (listed.setIfInBounds i true) a' w') :
    ∀ K' : Act → World → Prop, Shut (∀ a w, MM S w0 w Ls → (MM S w0 w Ls → wpAnyH P .any ops Q (fun w' => MM S w0 w' Ls) fuel (listed.setIfInBounds i true) a w) → K' a w) → if Region.wanted op (yielded ops a.tmps) = true then Oper.wp P op a w K' Q else K' (a.put op.dst undef) w := by
  intro K hK
  rw [if_pos hw]
  unfold Oper.wp
  rw [hrun]
  refine hc.mono ?_
  rintro e w' ⟨x, b, rfl, hx, hΦ, hs, hb⟩
  have hm' := hm.new key b T (A x) hk hb hx hs
  exact hK.out _ _ (hm'.sub Ls (hS x b)) fun _ => k x b _ _ hΦ (he.putO _ _ hd) hm'
end
theorem ixA {P : Program} {T : TypeId} (len : Nat) (el : TypeId) (sz : Nat) (hT : P.underlying T = some (.array len el)) (hs : ∀ w, (sizeOf el).run P w = .ok sz w) (b c i : Nat) (hi : i < len) (hl : 1 < len) (w : World) :
    (Instr.indexAt T (.pointer (some ⟨b, c, none⟩)) (.int .i64 (i : Nat))).run P w = .ok (.pointer (some ⟨b, c + i * sz, none⟩)) w := by
  have h1 : (0 : Int) ≤ (i : Int) ∧ (i : Int) < (len : Int) := ⟨by omega, by omega⟩
  have h2 : ¬ len ≤ 1 := by omega
  simp [Instr.indexAt, asIntOf, underlying, hT, Sem.run_bind, Instr.sureAddr, h1, h2, hs, Result.andThen, Addr.add]
  rw [if_pos (by omega)]
  simp [hs, Result.andThen, Addr.add_mid, Sem.run_bind]
end Go.Proofs.YtkaekiodjjhjkaaDoor
