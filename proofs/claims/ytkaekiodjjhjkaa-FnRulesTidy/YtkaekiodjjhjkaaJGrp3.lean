/- Steps: rows of structs as lists; calls that change a row of the caller's. -/
import Derived.Test.YtkaekiodjjhjkaaJGrp2
import Derived.WalkKit
import Derived.ProofKit
import Derived.OpenShut
import Derived.ShutString
import Derived.ChangeOld
import Derived.Below
import Derived.Deep.Slices
set_option maxRecDepth 100000
set_option linter.unusedSimpArgs false
set_option linter.unusedVariables false
namespace Go.Proofs.Ytkaekiodjjhjkaa
open Go.RowKit
theorem pmap4 {f : Operand → Value} {i j k l : Nat} {x y z q : Operand} {u v t r : Value} (h : f x = u) (h2 : f y = v) (h3 : f z = t) (h4 : f q = r) : #[(i, x), (j, y), (k, z), (l, q)].map (fun (p : Nat × Operand) => (p.1, f p.2)) = #[(i, u), (j, v), (k, t), (l, r)] := by simp [h, h2, h3, h4]
theorem one9 : OneT Try.prog 9 := ⟨fun w => by kernel_rfl, fun w => by kernel_rfl⟩
def cellsOf {α : Type} (arr : α → Array Value) (l : List α) : List Value := l.flatMap fun x => (arr x).toList
section
variable {α : Type} {arr : α → Array Value} {sz : Nat}
theorem cellsOf_cons (x : α) (l : List α) : cellsOf arr (x :: l) = (arr x).toList ++ cellsOf arr l := rfl
theorem cellsOf_len (h : ∀ x, (arr x).size = sz) : ∀ (l : List α), (cellsOf arr l).length = l.length * sz
 | [] => by simp [cellsOf]
 | x :: l => by
   rw [cellsOf_cons, List.length_append, cellsOf_len h l, Array.length_toList, h x, List.length_cons, Nat.succ_mul]; omega
theorem cellsOf_app (a b : List α) : cellsOf arr (a ++ b) = cellsOf arr a ++ cellsOf arr b := by
 unfold cellsOf; rw [List.flatMap_append]
theorem cellsOf_one (h : ∀ x, (arr x).all (·.oneCell') = true) (l : List α) : ∀ u ∈ cellsOf arr l, u.oneCell' = true := by
 intro u hu
 unfold cellsOf at hu
 obtain ⟨x, _, hx⟩ := List.mem_flatMap.1 hu
 exact (Array.all_eq_true_iff_forall_mem.1 (h x)) u (by simpa using hx)
theorem cellsOf_get (h : ∀ x, (arr x).size = sz) : ∀ (l : List α) (i j : Nat) (x : α), l[i]? = some x → j < sz → (cellsOf arr l)[i * sz + j]? = (arr x)[j]?
 | [], i, j, x, hx, _ => by simp at hx
 | y :: l, 0, j, x, hx, hj => by
   obtain rfl : y = x := by simpa using hx
   rw [cellsOf_cons, Nat.zero_mul, Nat.zero_add, List.getElem?_append_left (by rw [Array.length_toList, h]; exact hj), Array.getElem?_toList]
 | y :: l, i + 1, j, x, hx, hj => by
   rw [cellsOf_cons, List.getElem?_append_right (by rw [Array.length_toList, h, Nat.succ_mul]; omega), Array.length_toList, h, show (i + 1) * sz + j - sz = i * sz + j by rw [Nat.succ_mul]; omega]
   exact cellsOf_get h l i j x (by simpa using hx) hj
theorem Rw.lits (h : ∀ x, (arr x).size = sz) (l : List α) (hl : l.length ≤ maxLen) : Rw (cellsOf arr l).toArray l.length l.length sz (cellsOf arr l) :=
 ⟨Nat.le_refl _, hl, by rw [List.size_toArray, cellsOf_len h], by rw [← cellsOf_len h l]; simp⟩
theorem Rw.rowAt (h : ∀ x, (arr x).size = sz) {w : World} {b n cap : Nat} {T : TypeId} {cur : Array Value} {l : List α} (d : α) (rw : Rw cur n cap sz (cellsOf arr l)) (hn : n = l.length) (hx : BX w b T cur) : RowAt w b 0 n sz fun i => arr (l.getD i d) := by
 subst hn
 refine ⟨hx.lt, fun i hi j hj => ⟨?_, by rw [h]; exact hj⟩⟩
 have hg := cellsOf_get h l i j _ (List.getElem?_eq_getElem hi) hj
 show w.cell? ⟨b, 0 + i * sz + j, none⟩ = (arr (l.getD i d))[j]?
 rw [hx.cell, Nat.zero_add, List.getD_eq_getElem?_getD, List.getElem?_eq_getElem hi, Option.getD_some, ← hg]
 have hlt : i * sz + j < (cellsOf arr l).length := by
  rw [cellsOf_len h]
  have := Nat.mul_le_mul_right sz (show i + 1 ≤ l.length from hi)
  rw [Nat.succ_mul] at this; omega
 rw [List.getElem?_eq_getElem hlt]
 exact rw.get _ _ (List.getElem?_eq_getElem hlt)
end
theorem Rw.fit' {cur : Array Value} {n cap sz : Nat} {xs : List Value} (h : Rw cur n cap sz xs) : n * sz ≤ cur.size := by
 rw [h.room]; exact Nat.mul_le_mul_right _ h.le
theorem Rw.app {α : Type} {arr : α → Array Value} {sz n cap : Nat} {cur : Array Value} {a b : List α} (h : Rw cur n cap sz (cellsOf arr a ++ cellsOf arr b)) : Rw cur n cap sz (cellsOf arr (a ++ b)) := by rw [cellsOf_app]; exact h
theorem Rw.cast {cur : Array Value} {n m cap sz : Nat} {x y : List Value} (h : Rw cur n cap sz x) (e : n = m) (e2 : x = y) : Rw cur m cap sz y := by subst e; subst e2; exact h
section
variable {P : Program} {ops : Array Oper} {Q : Exit → Act → World → Prop} {rest : List Oper} {op : Oper} {a : Act} {w w0 : World} {S : List Nat} {L : List (Nat × Ent)}
 {n : Nat} {d : List Deferred} {env : List (Nat × Value)}
theorem wl_callK (he : EV a n d env) (hm : MM S w0 w L) (key : Nat) {b : Nat} {T : TypeId} {A A' : Array Value} (hl : L.lookup key = some ⟨true, b, T, A⟩) (hd : op.dst.all (· < n) = true) (hw : Region.wanted op (yielded ops a.tmps) = true) (f : FuncId) (args : Array Value) (hr : (execOp a.eval op).run P w = .ok (.enter f args) w) (v : Value)
 (hc : Calls P f args w fun e w' => e = .returned v ∧ KB [b] w w' ∧ BX w' b T A')
 (k : ∀ a' w', EV a' n d (putE env op.dst v) → MM S w0 w' ((key, ⟨true, b, T, A'⟩) :: L) → wpList P ops Q rest a' w') : wpList P ops Q (op :: rest) a w := by
 unfold wpList
 rw [if_pos hw]
 refine .inl ?_
 unfold Oper.wp
 rw [hr]
 refine hc.mono ?_
 rintro e w' ⟨rfl, hk, hx⟩
 exact k _ _ (he.putO _ _ hd) (hm.kb1 key b T A A' hl hk hx)
end
section
variable {P : Program} {ops : Array Oper} {Q : Exit → Act → World → Prop} {op : Oper} {a : Act} {w w0 : World} {S : List Nat} {L Ls : List (Nat × Ent)} {n : Nat} {d : List Deferred} {env : List (Nat × Value)} {fuel : Nat} {listed : Array Bool} {α : Type}
theorem st_callN {i : Nat} (he : EV a n d env) (hm : MM S w0 w L) (key : Nat) (hk : L.lookup key = none) {v : α → Nat → Value} {T : TypeId} {A : α → Array Value} {Φ : α → Prop} (hS : ∀ x b, SubL ((key, ⟨true, b, T, A x⟩) :: L) Ls) (hd : op.dst.all (· < n) = true) (hw : Region.wanted op (yielded ops a.tmps) = true) (f : FuncId) (args : Array Value) (hrun : (execOp a.eval op).run P w = .ok (.enter f args) w)
 (hc : Calls P f args w fun e w' => NewRow w v T A Φ e w')
 (k : ∀ x b a' w', Φ x → EV a' n d (putE env op.dst (v x b)) → MM S w0 w' ((key, ⟨true, b, T, A x⟩) :: L) → wpAnyH P .any ops Q (fun w' => MM S w0 w' Ls) fuel (listed.setIfInBounds i true) a' w') :
 ∀ K' : Act → World → Prop, Shut (∀ a w, MM S w0 w Ls → (MM S w0 w Ls → wpAnyH P .any ops Q (fun w' => MM S w0 w' Ls) fuel (listed.setIfInBounds i true) a w) → K' a w) → if Region.wanted op (yielded ops a.tmps) = true then Oper.wp P op a w K' Q else K' (a.put op.dst undef) w := by
 intro K hK
 rw [if_pos hw]
 unfold Oper.wp
 rw [hrun]
 refine hc.mono ?_
 rintro e w' ⟨x, b, rfl, hx, hΦ, hs, hb⟩
 have hm' := hm.new key b T (A x) hk hb hx hs
 exact hK.out _ _ (hm'.sub Ls (hS x b)) fun _ => k x b _ _ hΦ (he.putO _ _ hd) hm'
end
theorem ixA {P : Program} {T : TypeId} (len : Nat) (el : TypeId) (sz : Nat) (hT : P.underlying T = some (.array len el)) (hs : ∀ w, (sizeOf el).run P w = .ok sz w) (b c i : Nat) (hi : i < len) (hl : 1 < len) (w : World) :
 (Instr.indexAt T (.pointer (some ⟨b, c, none⟩)) (.int .i64 (i : Nat))).run P w = .ok (.pointer (some ⟨b, c + i * sz, none⟩)) w := by
 have h1 : (0 : Int) ≤ (i : Int) ∧ (i : Int) < (len : Int) := ⟨by omega, by omega⟩
 have h2 : ¬ len ≤ 1 := by omega
 simp [Instr.indexAt, asIntOf, underlying, hT, Sem.run_bind, Instr.sureAddr, h1, h2, hs, Result.andThen, Addr.add]
 rw [if_pos (by omega)]
 simp [hs, Result.andThen, Addr.add_mid, Sem.run_bind]
section
variable {P : Program} {ops : Array Oper} {Q : Exit → Act → World → Prop} {rest : List Oper} {op : Oper} {a : Act} {w w0 : World} {S : List Nat} {L Ls : List (Nat × Ent)}
 {n : Nat} {d : List Deferred} {env : List (Nat × Value)} {fuel : Nat} {listed : Array Bool}
theorem kk (he : EV a n d env) (hm : MM S w0 w L) (key : Nat) {b : Nat} {T : TypeId} {A : Array Value} (A' : Array Value) {f : FuncId} {args : Array Value} {v : Value} (hl : L.lookup key = some ⟨true, b, T, A⟩) (hc : Calls P f args w fun e w' => e = .returned v ∧ KB [b] w w' ∧ BX w' b T A')
 (k : ∀ a' w', EV a' n d (putE env op.dst v) → MM S w0 w' ((key, ⟨true, b, T, A'⟩) :: L) → wpList P ops Q rest a' w') (h : CallIs ops n env op f args := by unfold CallIs; kernel_rfl) (hf : ∀ args w, (callFunc f args).run P w = .ok (.enter f args) w := by intros; kernel_rfl) : wpList P ops Q (op :: rest) a w :=
 wl_callK he hm key hl h.hd (he.want h.hw) f args (he.call h.hc hf w) v hc k
end
def storeE (env : List (Nat × Value)) : Op → Option (TypeId × Value × Value)
 | .store T x y => match evO env x, evO env y with
   | some p, some v => some (T, p, v)
   | _, _ => none
 | _ => none
def loadE (env : List (Nat × Value)) : Op → Option (TypeId × Value)
 | .load T x => match evO env x with
   | some p => some (T, p)
   | _ => none
 | _ => none
def allocE : Op → Option TypeId
 | .alloc T => some T
 | _ => none
def evp (env : List (Nat × Value)) : List (Nat × Operand) → Option (List (Nat × Value))
 | [] => some []
 | (i, x) :: r => match evO env x, evp env r with
   | some v, some l => some ((i, v) :: l)
   | _, _ => none
def buildE (env : List (Nat × Value)) : Op → Option (TypeId × Nat × Array (Nat × Value))
 | .buildSlice T len parts => match evp env parts.toList with
   | some l => some (T, len, l.toArray)
   | none => none
 | _ => none
def appE (env : List (Nat × Value)) : Op → Option (TypeId × Value × Value)
 | .call c => match c.callee, evs env c.args.toList, c.argTypes.toList with
   | .builtin .append, some [s, x], [t, u] => if t = u then some (t, s, x) else none
   | _, _, _ => none
 | _ => none
section
variable {P : Program} {ops : Array Oper} {Q : Exit → Act → World → Prop} {rest : List Oper} {op : Oper} {a : Act} {w w0 : World} {S : List Nat} {L Ls : List (Nat × Ent)}
 {n : Nat} {d : List Deferred} {env : List (Nat × Value)} {fuel : Nat} {listed : Array Bool}
theorem storeE_is {T : TypeId} {p v : Value} (h : storeE env op.op = some (T, p, v)) (he : EV a n d env) : ∃ x y, op.op = .store T x y ∧ a.eval x = p ∧ a.eval y = v := by
 unfold storeE at h
 split at h
 ·rename_i T x y ho
  split at h
  ·rename_i h1 h2; cases h; exact ⟨x, y, ho, he.evO h1, he.evO h2⟩
  ·cases h
 ·cases h
theorem loadE_is {T : TypeId} {p : Value} (h : loadE env op.op = some (T, p)) (he : EV a n d env) : ∃ x, op.op = .load T x ∧ a.eval x = p := by
 unfold loadE at h
 split at h
 ·rename_i T x ho
  split at h
  ·rename_i h1; cases h; exact ⟨x, ho, he.evO h1⟩
  ·cases h
 ·cases h
theorem allocE_is {T : TypeId} (h : allocE op.op = some T) : op.op = .alloc T := by
 unfold allocE at h
 split at h
 ·rename_i ho; cases h; exact ho
 ·cases h
theorem EV.evp (he : EV a n d env) : ∀ {x : List (Nat × Operand)} {l : List (Nat × Value)}, evp env x = some l → x.map (fun (i, x) => (i, a.eval x)) = l
 | [], l, h => by cases h; rfl
 | (i, x) :: r, l, h => by
   simp only [Ytkaekiodjjhjkaa.evp] at h
   cases h1 : Ytkaekiodjjhjkaa.evO env x <;> rw [h1] at h
   ·simp at h
   ·cases h2 : Ytkaekiodjjhjkaa.evp env r <;> rw [h2] at h
    ·simp at h
    ·obtain rfl : _ :: _ = l := by simpa using h
     have e1 := he.evO h1
     have e2 := he.evp h2
     rw [List.map_cons]
     show (i, a.eval x) :: _ = _
     rw [e1, e2]
theorem buildE_is {T : TypeId} {len : Nat} {vs : Array (Nat × Value)} (h : buildE env op.op = some (T, len, vs)) (he : EV a n d env) : ∃ parts, op.op = .buildSlice T len parts ∧ parts.map (fun (i, x) => (i, a.eval x)) = vs := by
 unfold buildE at h
 split at h
 ·rename_i T len parts ho
  split at h
  ·rename_i l hl; cases h
   exact ⟨parts, ho, by apply Array.ext'; rw [Array.toList_map, he.evp hl]⟩
  ·cases h
 ·cases h
theorem appE_is {t : TypeId} {u v : Value} (h : appE env op.op = some (t, u, v)) (he : EV a n d env) : ∃ s x, op.op = .call { callee := .builtin .append, args := #[s, x], argTypes := #[t, t] } ∧ a.eval s = u ∧ a.eval x = v := by
 unfold appE at h
 split at h
 ·rename_i c ho
  split at h
  ·rename_i s x t' u' hc hl ht
   split at h
   ·rename_i e
    subst e
    cases h
    have hx := he.evs hl
    obtain ⟨cal, args, tys⟩ := c
    simp only at hc hl ht hx
    obtain ⟨l⟩ := args; obtain ⟨m⟩ := tys
    simp only at ht hx
    subst hc ht
    match l, hx with
    | [p, q], hx => 
      simp only [List.map_cons, List.map_nil, List.cons.injEq, and_true] at hx
      exact ⟨p, q, ho, hx.1, hx.2⟩
   ·cases h
  ·cases h
 ·cases h
structure SzT (P : Program) (T : TypeId) (m : Nat) : Prop where
 size : ∀ w, (sizeOf T).run P w = .ok m w
theorem OneT.sz {T : TypeId} (h : OneT P T) : SzT P T 1 := ⟨h.size⟩
theorem AggT.sz {T : TypeId} {m : Nat} (h : AggT P T m) : SzT P T m := ⟨h.size⟩
theorem ks (he : EV a n d env) (hm : MM S w0 w L) (key : Nat) {b : Nat} {T0 : TypeId} {A : Array Value} {T : TypeId} {m : Nat} (hT : SzT P T m) (off : Nat) (v : Value) (A' : Array Value) (k : ∀ w', MM S w0 w' ((key, ⟨true, b, T0, A'⟩) :: L) → wpList P ops Q rest a w')
 (hl : L.lookup key = some ⟨true, b, T0, A⟩ := by rfl) (h : (op.dst, wantE ops env op, storeE env op.op) = (none, some true, some (T, .pointer (some ⟨b, off, none⟩), v)) := by kernel_rfl) (hz : v.cells.size = m := by rfl) (hc : v.cells.all (·.oneCell') = true := by kernel_rfl) (hin : off + m ≤ A.size := by first | (show _ ≤ _; decide) | omega) (hA : ovw A off v.cells.toList = A' := by rfl) : wpList P ops Q (op :: rest) a w := by
 obtain ⟨x, y, ho, hx, hy⟩ := storeE_is (congrArg (·.2.2) h) he
 exact wl_store he hm key hl (congrArg (·.1) h) (he.want (congrArg (·.2.1) h)) T x y ho off hx v hy m hT.size hz hc hin A' hA k
theorem kl (he : EV a n d env) (hm : MM S w0 w L) (key : Nat) {o : Bool} {b : Nat} {T0 : TypeId} {A : Array Value} {T : TypeId} (hT : OneT P T) (off : Nat) (v : Value) (k : ∀ a', EV a' n d (putE env op.dst v) → wpList P ops Q rest a' w)
 (hl : L.lookup key = some ⟨o, b, T0, A⟩ := by rfl) (h : (dstE op n, wantE ops env op, loadE env op.op) = (true, some true, some (T, .pointer (some ⟨b, off, none⟩))) := by kernel_rfl) (hv : A[off]? = some v := by rfl) : wpList P ops Q (op :: rest) a w := by
 obtain ⟨x, ho, hx⟩ := loadE_is (congrArg (·.2.2) h) he
 exact wl_val he (congrArg (·.1) h) (he.want (congrArg (·.2.1) h)) v (rn_load1 hm key hl T x ho off hx hT v hv) k
theorem klA (he : EV a n d env) (hm : MM S w0 w L) (key : Nat) {o : Bool} {b : Nat} {T0 : TypeId} {A : Array Value} {T : TypeId} {m : Nat} (hT : AggT P T m) (off : Nat) (C : Array Value) (k : ∀ a', EV a' n d (putE env op.dst (.agg C)) → wpList P ops Q rest a' w)
 (hl : L.lookup key = some ⟨o, b, T0, A⟩ := by rfl) (h : (dstE op n, wantE ops env op, loadE env op.op) = (true, some true, some (T, .pointer (some ⟨b, off, none⟩))) := by kernel_rfl) (hC : A.extract off (off + m) = C := by kernel_rfl) (hz : C.size = m := by rfl) : wpList P ops Q (op :: rest) a w := by
 obtain ⟨x, ho, hx⟩ := loadE_is (congrArg (·.2.2) h) he
 exact wl_val he (congrArg (·.1) h) (he.want (congrArg (·.2.1) h)) (.agg C) (rn_loadA hm key hl T x ho off hx m hT C hC hz) k
theorem kr (he : EV a n d env) (hm : MM S w0 w L) {b p m sz : Nat} {f : Nat → Array Value} {T : TypeId} (hT : OneT P T) (hr : RowAt w0 b p m sz f) (i j : Nat) (v : Value) (k : ∀ a', EV a' n d (putE env op.dst v) → wpList P ops Q rest a' w)
 (hv : (f i)[j]? = some v := by rfl) (hb : b ∉ S := by simp) (hi : i < m := by omega) (hj : j < sz := by omega) (h : (dstE op n, wantE ops env op, loadE env op.op) = (true, some true, some (T, .pointer (some ⟨b, p + i * sz + j, none⟩))) := by kernel_rfl) : wpList P ops Q (op :: rest) a w := by
 obtain ⟨x, ho, hx⟩ := loadE_is (congrArg (·.2.2) h) he
 exact wl_val he (congrArg (·.1) h) (he.want (congrArg (·.2.1) h)) v (rn_row1 hm hr hb i hi j hj T x ho hx hT v hv) k
theorem krA (he : EV a n d env) (hm : MM S w0 w L) {b p m sz : Nat} {f : Nat → Array Value} {T : TypeId} (hT : AggT P T sz) (hr : RowAt w0 b p m sz f) (i : Nat) (k : ∀ a', EV a' n d (putE env op.dst (.agg (f i))) → wpList P ops Q rest a' w)
 (hb : b ∉ S := by simp) (hi : i < m := by omega) (h : (dstE op n, wantE ops env op, loadE env op.op) = (true, some true, some (T, .pointer (some ⟨b, p + i * sz, none⟩))) := by kernel_rfl) (hz : (f i).size = sz := by kernel_rfl) : wpList P ops Q (op :: rest) a w := by
 obtain ⟨x, ho, hx⟩ := loadE_is (congrArg (·.2.2) h) he
 exact wl_val he (congrArg (·.1) h) (he.want (congrArg (·.2.1) h)) _ (rn_rowA hm hr hb i hi T x ho hx hT hz) k
theorem ka (he : EV a n d env) (hm : MM S w0 w L) (key : Nat) (T : TypeId) (z : Value) (A : Array Value) (k : ∀ a' w' b, EV a' n d (putE env op.dst (.pointer (some ⟨b, 0, none⟩))) → MM S w0 w' ((key, ⟨true, b, T, A⟩) :: L) → wpList P ops Q rest a' w')
 (h : (dstE op n, wantE ops env op, allocE op.op) = (true, some true, some T) := by kernel_rfl) (hk : L.lookup key = none := by rfl) (hz : ∀ w, (zeroValue T).run P w = .ok z w := by intro w; kernel_rfl) (hA : z.cells = A := by rfl) : wpList P ops Q (op :: rest) a w :=
 wl_alloc he hm key hk (congrArg (·.1) h) (he.want (congrArg (·.2.1) h)) T (allocE_is (congrArg (·.2.2) h)) z hz A hA k
theorem kb (he : EV a n d env) (hm : MM S w0 w L) (key : Nat) (T : TypeId) (len : Nat) {vs : Array (Nat × Value)} (e : TypeId) (A : Array Value) (hr : (Instr.buildSlice T len vs).run P w = .ok (.slice (some ⟨w.heap.size, 0, none⟩) len len) (w.alloc (.cells A e)))
 (k : ∀ a' w' b, EV a' n d (putE env op.dst (.slice (some ⟨b, 0, none⟩) len len)) → MM S w0 w' ((key, ⟨true, b, e, A⟩) :: L) → wpList P ops Q rest a' w') (h : (dstE op n, wantE ops env op, buildE env op.op) = (true, some true, some (T, len, vs)) := by kernel_rfl) (hk : L.lookup key = none := by rfl) : wpList P ops Q (op :: rest) a w := by
 obtain ⟨parts, ho, hx⟩ := buildE_is (congrArg (·.2.2) h) he
 exact wl_buildSlice he hm key hk (congrArg (·.1) h) (he.want (congrArg (·.2.1) h)) T len parts ho vs hx e A hr k
theorem kp (he : EV a n d env) (hm : MM S w0 w L) (key : Nat) {t e : TypeId} {z : Value} {size bytes : Nat} (E : ElT P t e z size bytes) {g k cap : Nat} {cur : Array Value} {xs : List Value} (hrw : Rw cur k cap size xs) {ad : Addr} {m c : Nat} (news : List Value) (hl : news.length = m * size) (hnews : ∀ j u, news[j]? = some u → w.cell? (ad.add j) = some u) (h1 : ∀ u ∈ news, u.oneCell' = true)
 (kk : ∀ a' w' g' cap' cur', EV a' n d (putE env op.dst (.slice (some ⟨g', 0, none⟩) (k + m) cap')) → MM S w0 w' ((key, ⟨true, g', e, cur'⟩) :: L) → Rw cur' (k + m) cap' size (xs ++ news) → wpList P ops Q rest a' w')
 (h63 : k + m ≤ maxLen := by simp only [maxLen]; omega) (hbytes : (k + m) * bytes ≤ 140737488355328 := by omega) (hlk : L.lookup key = some ⟨true, g, e, cur⟩ := by rfl) (h : (dstE op n, wantE ops env op, appE env op.op) = (true, some true, some (t, .slice (some ⟨g, 0, none⟩) k cap, .slice (some ad) m c)) := by kernel_rfl) : wpList P ops Q (op :: rest) a w := by
 obtain ⟨s, x, ho, hs, hx⟩ := appE_is (congrArg (·.2.2) h) he
 exact wl_append he hm key hlk (congrArg (·.1) h) (he.want (congrArg (·.2.1) h)) s x t ho E hs hrw ad m c hx news hl hnews h1 h63 hbytes kk
theorem kp0 (he : EV a n d env) (hm : MM S w0 w L) (key : Nat) {t e : TypeId} {z : Value} {size bytes : Nat} (E : ElT P t e z size bytes) {ad : Addr} {m c : Nat} (news : List Value) (hl : news.length = m * size) (hnews : ∀ j u, news[j]? = some u → w.cell? (ad.add j) = some u)
 (kk : ∀ a' w' g' cap' cur', EV a' n d (putE env op.dst (.slice (some ⟨g', 0, none⟩) m cap')) → MM S w0 w' ((key, ⟨true, g', e, cur'⟩) :: L) → Rw cur' m cap' size news → wpList P ops Q rest a' w')
 (hm0 : 0 < m := by omega) (h63 : m ≤ maxLen := by simp only [maxLen]; omega) (hbytes : m * bytes ≤ 140737488355328 := by omega) (hkey : L.lookup key = none := by rfl) (h : (dstE op n, wantE ops env op, appE env op.op) = (true, some true, some (t, .slice none 0 0, .slice (some ad) m c)) := by kernel_rfl) : wpList P ops Q (op :: rest) a w := by
 obtain ⟨s, x, ho, hs, hx⟩ := appE_is (congrArg (·.2.2) h) he
 exact wl_append0 he hm key hkey (congrArg (·.1) h) (he.want (congrArg (·.2.1) h)) s x t ho E hs ad m c hx hm0 news hl hnews h63 hbytes kk
theorem tl (i : Nat) (hi : ops.toList[i]? = some op) (he : EV a n d env) (hm : MM S w0 w L) (key : Nat) {o : Bool} {b : Nat} {T0 : TypeId} {A : Array Value} {T : TypeId} (hT : OneT P T) (off : Nat) (v : Value)
 (k : ∀ a', EV a' n d (putE env op.dst v) → wpAnyH P .any ops Q (fun w' => MM S w0 w' Ls) fuel (listed.setIfInBounds i true) a' w)
 (hl : Ls.lookup key = some ⟨o, b, T0, A⟩ := by rfl) (h : (Region.noSelect ops, Region.free .any ops listed i, (Region.ready .any ops listed).contains i, dstE op n, wantE ops env op, loadE env op.op) = (true, true, true, true, some true, some (T, .pointer (some ⟨b, off, none⟩))) := by kernel_rfl) (hv : A[off]? = some v := by rfl) (hq : ∀ t v c a w, Q (.panic c) (Act.put a t v) w → Q (.panic c) a w := by intro t v c a w h; cases t <;> exact h) (hS : SubL L Ls := by (repeat refine ⟨rfl, ?_⟩); trivial) : wpAnyH P .any ops Q (fun w' => MM S w0 w' Ls) (fuel + 1) listed a w := by
 obtain ⟨x, ho, hx⟩ := loadE_is (congrArg (·.2.2.2.2.2) h) he
 exact tv i hi he hm v (fun w' h' => rn_load1 h' key hl T x ho off hx hT v hv) k (Prod.ext (congrArg (·.1) h) (Prod.ext (congrArg (·.2.1) h) (Prod.ext (congrArg (·.2.2.1) h) (Prod.ext (congrArg (·.2.2.2.1) h) (congrArg (·.2.2.2.2.1) h))))) hq hS
theorem tlA (i : Nat) (hi : ops.toList[i]? = some op) (he : EV a n d env) (hm : MM S w0 w L) (key : Nat) {o : Bool} {b : Nat} {T0 : TypeId} {A : Array Value} {T : TypeId} {m : Nat} (hT : AggT P T m) (off : Nat) (C : Array Value)
 (k : ∀ a', EV a' n d (putE env op.dst (.agg C)) → wpAnyH P .any ops Q (fun w' => MM S w0 w' Ls) fuel (listed.setIfInBounds i true) a' w)
 (hl : Ls.lookup key = some ⟨o, b, T0, A⟩ := by rfl) (h : (Region.noSelect ops, Region.free .any ops listed i, (Region.ready .any ops listed).contains i, dstE op n, wantE ops env op, loadE env op.op) = (true, true, true, true, some true, some (T, .pointer (some ⟨b, off, none⟩))) := by kernel_rfl) (hC : A.extract off (off + m) = C := by kernel_rfl) (hz : C.size = m := by rfl) (hq : ∀ t v c a w, Q (.panic c) (Act.put a t v) w → Q (.panic c) a w := by intro t v c a w h; cases t <;> exact h) (hS : SubL L Ls := by (repeat refine ⟨rfl, ?_⟩); trivial) : wpAnyH P .any ops Q (fun w' => MM S w0 w' Ls) (fuel + 1) listed a w := by
 obtain ⟨x, ho, hx⟩ := loadE_is (congrArg (·.2.2.2.2.2) h) he
 exact tv i hi he hm (.agg C) (fun w' h' => rn_loadA h' key hl T x ho off hx m hT C hC hz) k (Prod.ext (congrArg (·.1) h) (Prod.ext (congrArg (·.2.1) h) (Prod.ext (congrArg (·.2.2.1) h) (Prod.ext (congrArg (·.2.2.2.1) h) (congrArg (·.2.2.2.2.1) h))))) hq hS
theorem ts (i : Nat) (hi : ops.toList[i]? = some op) (he : EV a n d env) (hm : MM S w0 w L) (key : Nat) {b : Nat} {T0 : TypeId} {A : Array Value} {T : TypeId} {m : Nat} (hT : SzT P T m) (off : Nat) (v : Value) (A' : Array Value) (hS : SubL ((key, ⟨true, b, T0, A'⟩) :: L) Ls)
 (k : ∀ w', MM S w0 w' ((key, ⟨true, b, T0, A'⟩) :: L) → wpAnyH P .any ops Q (fun w' => MM S w0 w' Ls) fuel (listed.setIfInBounds i true) a w')
 (hl : L.lookup key = some ⟨true, b, T0, A⟩ := by rfl) (h : (Region.ready .any ops listed, op.dst, wantE ops env op, storeE env op.op) = ([i], none, some true, some (T, .pointer (some ⟨b, off, none⟩), v)) := by kernel_rfl) (hz : v.cells.size = m := by rfl) (hc : v.cells.all (·.oneCell') = true := by kernel_rfl) (hin : off + m ≤ A.size := by first | (show _ ≤ _; decide) | omega) (hA : ovw A off v.cells.toList = A' := by rfl) : wpAnyH P .any ops Q (fun w' => MM S w0 w' Ls) (fuel + 1) listed a w := by
 rw [Array.getElem?_toList] at hi
 obtain ⟨x, y, ho, hx, hy⟩ := storeE_is (congrArg (·.2.2.2) h) he
 exact wh_store (congrArg (·.1) h) hi he hm key hl (congrArg (·.2.1) h) (he.want (congrArg (·.2.2.1) h)) T x y ho off hx v hy m hT.size hz hc hin A' hA hS k
theorem sa {i : Nat} (he : EV a n d env) (hm : MM S w0 w L) (hS : SubL L Ls) (key : Nat) (T : TypeId) (z : Value) (A : Array Value) (hS2 : ∀ b, SubL ((key, ⟨true, b, T, A⟩) :: L) Ls)
 (k : ∀ a' w' b, EV a' n d (putE env op.dst (.pointer (some ⟨b, 0, none⟩))) → MM S w0 w' ((key, ⟨true, b, T, A⟩) :: L) → wpAnyH P .any ops Q (fun w' => MM S w0 w' Ls) fuel (listed.setIfInBounds i true) a' w')
 (h : (dstE op n, wantE ops env op, allocE op.op) = (true, some true, some T) := by kernel_rfl) (hk : L.lookup key = none := by rfl) (hz : ∀ w, (zeroValue T).run P w = .ok z w := by intro w; kernel_rfl) (hA : z.cells = A := by rfl) :
 ∀ K' : Act → World → Prop, Shut (∀ a w, MM S w0 w Ls → (MM S w0 w Ls → wpAnyH P .any ops Q (fun w' => MM S w0 w' Ls) fuel (listed.setIfInBounds i true) a w) → K' a w) → if Region.wanted op (yielded ops a.tmps) = true then Oper.wp P op a w K' Q else K' (a.put op.dst undef) w :=
 st_alloc he hm key hk hS (congrArg (·.1) h) (he.want (congrArg (·.2.1) h)) T (allocE_is (congrArg (·.2.2) h)) z hz A hA hS2 k
theorem up2 (i j : Nat) {oi oj : Oper} {SS : World → Prop} (hi : ops.toList[i]? = some oi) (hj : ops.toList[j]? = some oj)
 (h1 : ∀ K : Act → World → Prop, Shut (∀ a w, SS w → (SS w → wpAnyH P .any ops Q SS fuel (listed.setIfInBounds i true) a w) → K a w) → if Region.wanted oi (yielded ops a.tmps) = true then Oper.wp P oi a w K Q else K (a.put oi.dst undef) w)
 (h2 : ∀ K : Act → World → Prop, Shut (∀ a w, SS w → (SS w → wpAnyH P .any ops Q SS fuel (listed.setIfInBounds j true) a w) → K a w) → if Region.wanted oj (yielded ops a.tmps) = true then Oper.wp P oj a w K Q else K (a.put oj.dst undef) w)
 (hr : Region.ready .any ops listed = [i, j] := by kernel_rfl) : wpAnyH P .any ops Q SS (fuel + 1) listed a w := by
 rw [Array.getElem?_toList] at hi hj
 exact wpAnyH_ready hr (by simp) (AllReadyH.cons hi h1 (AllReadyH.cons hj h2 AllReadyH.nil))
theorem up1 (i : Nat) {oi : Oper} {SS : World → Prop} (hi : ops.toList[i]? = some oi)
 (h1 : ∀ K : Act → World → Prop, Shut (∀ a w, SS w → (SS w → wpAnyH P .any ops Q SS fuel (listed.setIfInBounds i true) a w) → K a w) → if Region.wanted oi (yielded ops a.tmps) = true then Oper.wp P oi a w K Q else K (a.put oi.dst undef) w)
 (hr : Region.ready .any ops listed = [i] := by kernel_rfl) : wpAnyH P .any ops Q SS (fuel + 1) listed a w := by
 rw [Array.getElem?_toList] at hi
 exact wpAnyH_ready hr (by simp) (AllReadyH.cons hi h1 AllReadyH.nil)
end
section
variable {P : Program} {ops : Array Oper} {Q : Exit → Act → World → Prop} {rest : List Oper} {op : Oper} {a : Act} {w w0 : World} {S : List Nat} {L Ls : List (Nat × Ent)}
 {n : Nat} {d : List Deferred} {env : List (Nat × Value)} {fuel : Nat} {listed : Array Bool}
theorem kpR (he : EV a n d env) (hm : MM S w0 w L) (key kx : Nat) {t e : TypeId} {z : Value} {size bytes : Nat} (E : ElT P t e z size bytes) {g k cap : Nat} {cur : Array Value} {xs : List Value} (hrw : Rw cur k cap size xs) {o2 : Bool} {b2 m c : Nat} {T2 : TypeId} {cur2 : Array Value} {news : List Value} (hrx : Rw cur2 m c size news) (h1 : ∀ u ∈ news, u.oneCell' = true)
 (kk : ∀ a' w' g' cap' cur', EV a' n d (putE env op.dst (.slice (some ⟨g', 0, none⟩) (k + m) cap')) → MM S w0 w' ((key, ⟨true, g', e, cur'⟩) :: L) → Rw cur' (k + m) cap' size (xs ++ news) → wpList P ops Q rest a' w')
 (h63 : k + m ≤ maxLen := by simp only [maxLen]; omega) (hbytes : (k + m) * bytes ≤ 140737488355328 := by omega) (hlk : L.lookup key = some ⟨true, g, e, cur⟩ := by rfl) (hlx : L.lookup kx = some ⟨o2, b2, T2, cur2⟩ := by rfl) (h : (dstE op n, wantE ops env op, appE env op.op) = (true, some true, some (t, .slice (some ⟨g, 0, none⟩) k cap, .slice (some ⟨b2, 0, none⟩) m c)) := by kernel_rfl) : wpList P ops Q (op :: rest) a w :=
 kp he hm key E hrw (ad := ⟨b2, 0, none⟩) (m := m) (c := c) news hrx.len (fun j u hu => by rw [Addr.add_mid, Nat.zero_add, (hm.bx kx _ _ _ _ hlx).cell]; exact hrx.get j u hu) h1 kk h63 hbytes hlk h
theorem kp0R (he : EV a n d env) (hm : MM S w0 w L) (key kx : Nat) {t e : TypeId} {z : Value} {size bytes : Nat} (E : ElT P t e z size bytes) {o2 : Bool} {b2 m c : Nat} {T2 : TypeId} {cur2 : Array Value} {news : List Value} (hrx : Rw cur2 m c size news)
 (kk : ∀ a' w' g' cap' cur', EV a' n d (putE env op.dst (.slice (some ⟨g', 0, none⟩) m cap')) → MM S w0 w' ((key, ⟨true, g', e, cur'⟩) :: L) → Rw cur' m cap' size news → wpList P ops Q rest a' w')
 (hm0 : 0 < m := by omega) (h63 : m ≤ maxLen := by simp only [maxLen]; omega) (hbytes : m * bytes ≤ 140737488355328 := by omega) (hkey : L.lookup key = none := by rfl) (hlx : L.lookup kx = some ⟨o2, b2, T2, cur2⟩ := by rfl) (h : (dstE op n, wantE ops env op, appE env op.op) = (true, some true, some (t, .slice none 0 0, .slice (some ⟨b2, 0, none⟩) m c)) := by kernel_rfl) : wpList P ops Q (op :: rest) a w :=
 kp0 he hm key E (ad := ⟨b2, 0, none⟩) (m := m) (c := c) news hrx.len (fun j u hu => by rw [Addr.add_mid, Nat.zero_add, (hm.bx kx _ _ _ _ hlx).cell]; exact hrx.get j u hu) kk hm0 h63 hbytes hkey h
theorem tx (i : Nat) (hi : ops.toList[i]? = some op) (he : EV a n d env) (hm : MM S w0 w L) (k : ∀ a', EV a' n d (putE env op.dst undef) → wpAnyH P .any ops Q (fun w' => MM S w0 w' Ls) fuel (listed.setIfInBounds i true) a' w)
 (h : (Region.ready .any ops listed, dstE op n, wantE ops env op) = ([i], true, some false) := by kernel_rfl) (hS : SubL L Ls := by (repeat refine ⟨rfl, ?_⟩); trivial) : wpAnyH P .any ops Q (fun w' => MM S w0 w' Ls) (fuel + 1) listed a w := by
 rw [Array.getElem?_toList] at hi
 exact wh_pass (congrArg (·.1) h) hi he hm hS (congrArg (·.2.1) h) (he.want (congrArg (·.2.2) h)) k
end
end Go.Proofs.Ytkaekiodjjhjkaa
namespace Go.Proofs.Ytkaekiodjjhjkaa
open Go.RowKit
structure Tab (P : Program) where
 sz : TypeId → Option (Bool × Nat)
 fo : TypeId → Nat → Option Nat
 one : ∀ T m, sz T = some (false, m) → OneT P T
 szm : ∀ T q m, sz T = some (q, m) → ∀ w, (sizeOf T).run P w = .ok m w
 agg : ∀ T m, sz T = some (true, m) → AggT P T m
 fld : ∀ T f o, fo T f = some o → ∀ b off w, (Instr.fieldAt T (.pointer (some ⟨b, off, none⟩)) f).run P w = .ok (.pointer (some ⟨b, off + o, none⟩)) w
def binV (env : List (Nat × Value)) : Op → Option Value
 | .binOp b _ x y _ => match evO env x, evO env y with
   | some (.int k p), some (.int k' q) => if k = k' then match b with
     | .add => some (.int k (k.wrap (p + q)))
     | .sub => some (.int k (k.wrap (p - q)))
     | .mul => some (.int k (k.wrap (p * q)))
     | .eql => some (.bool (p == q))
     | .neq => some (.bool (p != q))
     | .lss => some (.bool (decide (p < q)))
     | .leq => some (.bool (decide (p ≤ q)))
     | .gtr => some (.bool (decide (p > q)))
     | .geq => some (.bool (decide (p ≥ q)))
     | _ => none else none
   | _, _ => none
 | .unOp .not _ x => match evO env x with
   | some (.bool b) => some (.bool (!b))
   | _ => none
 | _ => none
def saddE (env : List (Nat × Value)) : Op → Option (ByteArray × ByteArray)
 | .binOp .add _ x y _ => match evO env x, evO env y with
   | some (.string p), some (.string q) => some (p, q)
   | _, _ => none
 | _ => none
def boxE (env : List (Nat × Value)) : Op → Option (TypeId × Value)
 | .box T x => match evO env x with
   | some v => some (T, v)
   | none => none
 | _ => none
def fldV {P : Program} (tb : Tab P) (env : List (Nat × Value)) : Op → Option Value
 | .fieldAddr T x f => match evO env x, tb.fo T f with
   | some (.pointer (some ⟨b, off, none⟩)), some o => some (.pointer (some ⟨b, off + o, none⟩))
   | _, _ => none
 | _ => none
structure RM where
 env : List (Nat × Value)
 L : List (Nat × Ent)
 xs : List Nat
 ys : List Nat
 us : List Value
 vs : List Value
 q : List Value
def memV {P : Program} (tb : Tab P) (op : Oper) (key : Nat) (e : Ent) (r : RM) : Option RM := match loadE r.env op.op, storeE r.env op.op with
 | some (T, .pointer (some ⟨b, off, none⟩)), _ => match tb.sz T with
   | some (false, _) => match e.A[off]? with
     | some v => some { r with env := putE r.env op.dst v, xs := b :: r.xs, ys := e.b :: r.ys }
     | none => none
   | some (true, m) => match decide ((e.A.extract off (off + m)).size = m) with
     | true => some { r with env := putE r.env op.dst (.agg (e.A.extract off (off + m))), xs := b :: r.xs, ys := e.b :: r.ys }
     | false => none
   | none => none
 | _, some (T, .pointer (some ⟨b, off, none⟩), v) => match tb.sz T with
   | some (_, m) => match op.dst, e.own, decide (v.cells.size = m), v.cells.all (·.oneCell'), decide (off + m ≤ e.A.size) with
     | none, true, true, true, true => some { r with L := (key, { e with A := ovw e.A off v.cells.toList }) :: r.L, xs := b :: r.xs, ys := e.b :: r.ys }
     | _, _, _, _, _ => none
   | none => none
 | _, _ => none
def stepM {P : Program} (tb : Tab P) (ops : Array Oper) (n : Nat) (h : Nat) (op : Oper) (r : RM) : Option RM := match dstE op n, wantE ops r.env op with
 | true, some false => some { r with env := putE r.env op.dst undef }
 | true, some true => match h with
   | 0 => match opV r.env op.op, fldV tb r.env op.op with
     | some v, _ => some { r with env := putE r.env op.dst v }
     | none, some v => some { r with env := putE r.env op.dst v }
     | none, none => none
   | 1 => match binV r.env op.op, r.q with
     | some u, v :: q => some { r with env := putE r.env op.dst v, us := u :: r.us, vs := v :: r.vs, q := q }
     | _, _ => none
   | key + 2 => match r.L.lookup key with
     | some e => memV tb op key e r
     | none => none
 | _, _ => none
def runM {P : Program} (tb : Tab P) (ops : Array Oper) (n : Nat) : List Nat → List Oper → RM → Option RM
 | [], _, r => some r
 | _ :: _, [], _ => none
 | h :: hs, op :: rest, r => match stepM tb ops n h op r with
   | some r' => runM tb ops n hs rest r'
   | none => none
section
variable {P : Program} {ops : Array Oper} {Q : Exit → Act → World → Prop} {rest : List Oper} {op : Oper} {a : Act} {w w0 : World} {S : List Nat} {L Ls : List (Nat × Ent)}
 {n : Nat} {d : List Deferred} {env : List (Nat × Value)} {fuel : Nat} {listed : Array Bool}
theorem boxE_is {T : TypeId} {v : Value} (h : boxE env op.op = some (T, v)) (he : EV a n d env) : ∃ x, op.op = .box T x ∧ a.eval x = v := by
 unfold boxE at h
 split at h
 ·rename_i T x ho
  split at h
  ·rename_i h1; cases h; exact ⟨x, ho, he.evO h1⟩
  ·cases h
 ·cases h
theorem binV_is {u : Value} (h : binV env op.op = some u) (he : EV a n d env) (w : World) : (execOp a.eval op).run P w = .ok (.value u) w := by
 unfold binV at h
 split at h
 ·rename_i b T x y U ho
  split at h
  ·rename_i k p k' q h1 h2
   split at h
   ·rename_i e
    subst e
    split at h <;> first | (cases h; done) | (cases h; exact rn_bin _ T U x y ho k p q (he.evO h1) (he.evO h2) _ _ (by simp [binOp, Op.intArith, Op.intCmp]) rfl)
   ·cases h
  ·cases h
 ·rename_i T x ho
  split at h
  ·rename_i b hx; cases h; exact rn_un .not T x ho (.bool b) (.bool (!b)) _ (he.evO hx) rfl rfl
  ·cases h
 ·cases h
theorem fldV_is (tb : Tab P) {v : Value} (h : fldV tb env op.op = some v) (he : EV a n d env) (w : World) : (execOp a.eval op).run P w = .ok (.value v) w := by
 unfold fldV at h
 split at h
 ·rename_i T x f ho
  split at h
  ·rename_i b off o h1 h2; cases h
   exact rn_field T x f ho _ _ (he.evO h1) (tb.fld T f o h2 b off w)
  ·cases h
 ·cases h
def RM.ok (r : RM) : Prop := r.xs = r.ys ∧ r.us = r.vs
theorem memV_mono {tb : Tab P} {key : Nat} {e : Ent} {r r' : RM} (h : memV tb op key e r = some r') (hk : r'.ok) : r.ok := by
 unfold memV at h
 (repeat' split at h) <;> first | (cases h; done) | (cases h; obtain ⟨h1, h2⟩ := hk; simp only [List.cons.injEq] at h1; exact ⟨h1.2, h2⟩)
theorem stepM_mono {tb : Tab P} {h : Nat} {r r' : RM} (hs : stepM tb ops n h op r = some r') (hk : r'.ok) : r.ok := by
 unfold stepM at hs
 (repeat' split at hs) <;> first | (cases hs; done) | (cases hs; exact hk) | (cases hs; obtain ⟨h1, h2⟩ := hk; simp only [List.cons.injEq] at h2; exact ⟨h1, h2.2⟩) | exact memV_mono hs hk
theorem runM_mono {tb : Tab P} : ∀ {hs : List Nat} {rest : List Oper} {r r' : RM}, runM tb ops n hs rest r = some r' → r'.ok → r.ok
 | [], _, _, _, h, hk => by cases h; exact hk
 | _ :: _, [], _, _, h, _ => by cases h
 | h :: hs, op :: rest, r, r', hr, hk => by
   unfold runM at hr
   split at hr
   ·rename_i r1 h1; exact stepM_mono h1 (runM_mono hr hk)
   ·cases hr
theorem memV_is {tb : Tab P} {key : Nat} {e : Ent} {r r' : RM} (h : memV tb op key e r = some r') (hk : r'.ok) (hl : r.L.lookup key = some e) (hd : op.dst.all (· < n) = true) (hw : Region.wanted op (yielded ops a.tmps) = true) (he : EV a n d r.env) (hm : MM S w0 w r.L)
 (k : ∀ a' w', EV a' n d r'.env → MM S w0 w' r'.L → wpList P ops Q rest a' w') : wpList P ops Q (op :: rest) a w := by
 obtain ⟨o, b0, T0, A⟩ := e
 unfold memV at h
 split at h
 ·rename_i T b off h1
  obtain ⟨x, ho, hx⟩ := loadE_is h1 he
  split at h
  ·rename_i m hT
   split at h
   ·rename_i v hv
    cases h
    obtain rfl : b = b0 := by have := hk.1; simp only [List.cons.injEq] at this; exact this.1
    exact wl_val he hd hw v (rn_load1 hm key hl T x ho off hx (tb.one _ _ hT) v hv) fun a' h' => k _ _ h' hm
   ·cases h
  ·rename_i m hT
   split at h
   ·rename_i hz
    cases h
    obtain rfl : b = b0 := by have := hk.1; simp only [List.cons.injEq] at this; exact this.1
    exact wl_val he hd hw _ (rn_loadA hm key hl T x ho off hx m (tb.agg _ _ hT) _ rfl (of_decide_eq_true hz)) fun a' h' => k _ _ h' hm
   ·cases h
  ·cases h
 ·rename_i T b off v h1 _
  obtain ⟨x, y, ho, hx, hy⟩ := storeE_is h1 he
  split at h
  ·rename_i q m hT
   split at h
   ·rename_i hd0 ho0 hz hc hin
    cases h
    obtain rfl : b = b0 := by have := hk.1; simp only [List.cons.injEq] at this; exact this.1
    obtain rfl : o = true := ho0
    exact wl_store he hm key hl hd0 hw T x y ho off hx v hy m (tb.szm _ _ _ hT) (of_decide_eq_true hz) hc (of_decide_eq_true hin) _ rfl fun w' h' => k a w' he h'
   ·cases h
  ·cases h
 ·cases h
theorem stepM_is {tb : Tab P} {h : Nat} {r r' : RM} (hs : stepM tb ops n h op r = some r') (hk : r'.ok) (he : EV a n d r.env) (hm : MM S w0 w r.L) (k : ∀ a' w', EV a' n d r'.env → MM S w0 w' r'.L → wpList P ops Q rest a' w') : wpList P ops Q (op :: rest) a w := by
 unfold stepM at hs
 split at hs
 ·rename_i h1 h2
  cases hs
  exact wl_not he h1 (he.want h2) fun a' h' => k _ _ h' hm
 ·rename_i h1 h2
  split at hs
  ·split at hs
   ·rename_i v hv; cases hs; exact wl_val he h1 (he.want h2) v (he.opV hv w) fun a' h' => k _ _ h' hm
   ·rename_i v _ hv; cases hs; exact wl_val he h1 (he.want h2) v (fldV_is tb hv he w) fun a' h' => k _ _ h' hm
   ·cases hs
  ·split at hs
   ·rename_i u v q hu _
    cases hs
    obtain rfl : u = v := by have := hk.2; simp only [List.cons.injEq] at this; exact this.1
    exact wl_val he h1 (he.want h2) u (binV_is hu he w) fun a' h' => k _ _ h' hm
   ·cases hs
  ·split at hs
   ·rename_i key e hl; exact memV_is hs hk hl h1 (he.want h2) he hm k
   ·cases hs
 ·cases hs
theorem runM_is {tb : Tab P} : ∀ {hs : List Nat} {rest : List Oper} {r r' : RM} {a : Act} {w : World}, runM tb ops n hs rest r = some r' → r'.ok → EV a n d r.env → MM S w0 w r.L → (∀ a' w', EV a' n d r'.env → MM S w0 w' r'.L → wpList P ops Q (rest.drop hs.length) a' w') → wpList P ops Q rest a w
 | [], _, _, _, _, _, h, _, he, hm, k => by cases h; exact k _ _ he hm
 | _ :: _, [], _, _, _, _, h, _, _, _, _ => by cases h
 | h :: hs, op :: rest, r, r', a, w, hr, hk, he, hm, k => by
   unfold runM at hr
   split at hr
   ·rename_i r1 h1; exact stepM_is h1 (runM_mono hr hk) he hm fun a' w' he' hm' => runM_is hr hk he' hm' k
   ·cases hr
theorem wrT (tb : Tab P) (hs : List Nat) (he : EV a n d env) (hm : MM S w0 w L) (new : List (Nat × Value)) (xs : List Nat) {us vs : List Value} (hv : us = vs) (k : ∀ a' w', EV a' n d (new ++ env) → MM S w0 w' L → wpList P ops Q (rest.drop hs.length) a' w')
 (h : runM tb ops n hs rest ⟨env, L, [], [], [], [], vs.reverse⟩ = some ⟨new ++ env, L, xs, xs, us, vs, []⟩) : wpList P ops Q rest a w :=
 runM_is h ⟨rfl, hv⟩ he hm k
theorem wmT (tb : Tab P) (hs : List Nat) (he : EV a n d env) (hm : MM S w0 w L) (new : List (Nat × Value)) (newL : List (Nat × Ent)) (xs : List Nat) {us vs : List Value} (hv : us = vs) (k : ∀ a' w', EV a' n d (new ++ env) → MM S w0 w' (newL ++ L) → wpList P ops Q (rest.drop hs.length) a' w')
 (h : runM tb ops n hs rest ⟨env, L, [], [], [], [], vs.reverse⟩ = some ⟨new ++ env, newL ++ L, xs, xs, us, vs, []⟩) : wpList P ops Q rest a w :=
 runM_is h ⟨rfl, hv⟩ he hm k
theorem kx (he : EV a n d env) (hm : MM S w0 w L) (key : Nat) (v : Value) (A : Array Value) (T : TypeId) (k : ∀ a' w' b, EV a' n d (putE env op.dst (.pointer (some ⟨b, 0, none⟩))) → MM S w0 w' ((key, ⟨true, b, T, A⟩) :: L) → wpList P ops Q rest a' w')
 (h : (dstE op n, wantE ops env op, boxE env op.op) = (true, some true, some (T, v)) := by kernel_rfl) (hk : L.lookup key = none := by rfl) (hA : v.cells = A := by rfl) : wpList P ops Q (op :: rest) a w := by
 obtain ⟨x, ho, hx⟩ := boxE_is (congrArg (·.2.2) h) he
 exact wl_box he hm key hk (congrArg (·.1) h) (he.want (congrArg (·.2.1) h)) T x ho v hx A hA k
theorem stepM_read {tb : Tab P} {h : Nat} {r r' : RM} (hs : stepM tb ops n h op r = some r') (hk : r'.ok) (hst : storeE r.env op.op = none) (he : EV a n d r.env) : op.dst.all (· < n) = true ∧ r'.L = r.L ∧ ∃ v, putE r.env op.dst v = r'.env ∧
 ((Region.wanted op (yielded ops a.tmps) = true ∧ ∀ w, MM S w0 w r.L → (execOp a.eval op).run P w = .ok (.value v) w) ∨ (Region.wanted op (yielded ops a.tmps) = false ∧ v = undef)) := by
 unfold stepM at hs
 split at hs
 ·rename_i h1 h2
  cases hs
  exact ⟨h1, rfl, undef, rfl, .inr ⟨he.want h2, rfl⟩⟩
 ·rename_i h1 h2
  split at hs
  ·split at hs
   ·rename_i v hv; cases hs; exact ⟨h1, rfl, v, rfl, .inl ⟨he.want h2, fun w _ => he.opV hv w⟩⟩
   ·rename_i v _ hv; cases hs; exact ⟨h1, rfl, v, rfl, .inl ⟨he.want h2, fun w _ => fldV_is tb hv he w⟩⟩
   ·cases hs
  ·split at hs
   ·rename_i u v q hu _
    cases hs
    obtain rfl : u = v := by have := hk.2; simp only [List.cons.injEq] at this; exact this.1
    exact ⟨h1, rfl, u, rfl, .inl ⟨he.want h2, fun w _ => binV_is hu he w⟩⟩
   ·cases hs
  ·split at hs
   ·rename_i e hl
    obtain ⟨o, b0, T0, A⟩ := e
    unfold memV at hs
    split at hs
    ·rename_i T b off hld
     obtain ⟨x, ho, hx⟩ := loadE_is hld he
     split at hs
     ·rename_i m hT
      split at hs
      ·rename_i v hv
       cases hs
       obtain rfl : b = b0 := by have := hk.1; simp only [List.cons.injEq] at this; exact this.1
       exact ⟨h1, rfl, v, rfl, .inl ⟨he.want h2, fun w hm => rn_load1 hm _ hl T x ho off hx (tb.one _ _ hT) v hv⟩⟩
      ·cases hs
     ·rename_i m hT
      split at hs
      ·rename_i hz
       cases hs
       obtain rfl : b = b0 := by have := hk.1; simp only [List.cons.injEq] at this; exact this.1
       exact ⟨h1, rfl, _, rfl, .inl ⟨he.want h2, fun w hm => rn_loadA hm _ hl T x ho off hx m (tb.agg _ _ hT) _ rfl (of_decide_eq_true hz)⟩⟩
      ·cases hs
     ·cases hs
    ·rename_i T b off v hsv _
     rw [hsv] at hst; cases hst
    ·cases hs
   ·cases hs
 ·cases hs
def runD {P : Program} (tb : Tab P) (ops : Array Oper) (n : Nat) : List (Nat × Nat) → Array Bool → RM → Option RM
 | [], _, r => some r
 | (i, h) :: is, l, r => match ops.toList[i]?, Region.free .any ops l i, (Region.ready .any ops l).contains i with
   | some op, true, true => match storeE r.env op.op, stepM tb ops n h op r with
     | none, some r' => runD tb ops n is (l.setIfInBounds i true) r'
     | _, _ => none
   | _, _, _ => none
theorem runD_mono {tb : Tab P} : ∀ {is : List (Nat × Nat)} {l : Array Bool} {r r' : RM}, runD tb ops n is l r = some r' → r'.ok → r.ok
 | [], _, _, _, h, hk => by cases h; exact hk
 | (i, h) :: is, l, r, r', hr, hk => by
   unfold runD at hr
   split at hr
   ·split at hr
    ·rename_i r1 _ h1; exact stepM_mono h1 (runD_mono hr hk)
    ·cases hr
   ·cases hr
theorem runD_is {tb : Tab P} (hsel : Region.noSelect ops = true) (hq : ∀ t v c a w, Q (.panic c) (Act.put a t v) w → Q (.panic c) a w) (hm : MM S w0 w Ls) : ∀ {is : List (Nat × Nat)} {listed : Array Bool} {r r' : RM} {a : Act}, runD tb ops n is listed r = some r' → r'.ok → r.L = Ls → EV a n d r.env →
 (∀ a', EV a' n d r'.env → wpAnyH P .any ops Q (fun w' => MM S w0 w' Ls) fuel (setAll listed (is.map (·.1))) a' w) → wpAnyH P .any ops Q (fun w' => MM S w0 w' Ls) (fuel + is.length) listed a w
 | [], _, _, _, _, h, _, _, he, k => by cases h; exact k _ he
 | (i, h) :: is, listed, r, r', a, hr, hk, hL, he, k => by
   unfold runD at hr
   split at hr
   ·rename_i op hi hf hrd
    rw [Array.getElem?_toList] at hi
    split at hr
    ·rename_i r1 hst h1
     obtain ⟨hd, hL1, v, hv, hy⟩ := stepM_read (S := S) (w0 := w0) h1 (runD_mono hr hk) hst he
     refine wpAnyH_take hi hsel hf hrd (fun c a w => hq _ v c a w) (hy.imp (fun ⟨x, y⟩ => ⟨x, fun w hw => y w (hL ▸ hw)⟩) id) hm (runD_is hsel hq hm hr hk (hL1.trans hL) (by rw [← hv]; exact he.putO _ _ hd) k)
    ·cases hr
   ·cases hr
theorem wtdT (tb : Tab P) (is : List (Nat × Nat)) (he : EV a n d env) (hm : MM S w0 w L) (hS : SubL L Ls) (new : List (Nat × Value)) (xs : List Nat) {us vs : List Value} (hv : us = vs) (k : ∀ a', EV a' n d (new ++ env) → wpAnyH P .any ops Q (fun w' => MM S w0 w' Ls) fuel (setAll listed (is.map (·.1))) a' w)
 (h : (Region.noSelect ops, runD tb ops n is listed ⟨env, Ls, [], [], [], [], vs.reverse⟩) = (true, some ⟨new ++ env, Ls, xs, xs, us, vs, []⟩)) (hq : ∀ t v c a w, Q (.panic c) (Act.put a t v) w → Q (.panic c) a w) : wpAnyH P .any ops Q (fun w' => MM S w0 w' Ls) (fuel + is.length) listed a w :=
 runD_is (congrArg (·.1) h) hq (hm.sub Ls hS) (congrArg (·.2) h) ⟨rfl, hv⟩ rfl he k
def AnyR {α : Type} (w : World) (v : α → Value) (Φ : α → Prop) (e : Ending) (w' : World) : Prop := (∃ x : α, e = .returned (v x) ∧ Φ x) ∧ Below w.heap.size w w'
variable {α : Type}
theorem kq (he : EV a n d env) (hm : MM S w0 w L) {f : FuncId} {args : Array Value} {v : α → Value} {Φ : α → Prop} (hc : Calls P f args w fun e w' => AnyR w v Φ e w')
 (k : ∀ x a' w', Φ x → EV a' n d (putE env op.dst (v x)) → MM S w0 w' L → wpList P ops Q rest a' w') (h : CallIs ops n env op f args := by unfold CallIs; kernel_rfl) (hf : ∀ args w, (callFunc f args).run P w = .ok (.enter f args) w := by intros; kernel_rfl) : wpList P ops Q (op :: rest) a w := by
 unfold wpList
 rw [if_pos (he.want h.hw)]
 refine .inl ?_
 unfold Oper.wp
 rw [he.call h.hc hf w]
 refine hc.mono ?_
 rintro e w' ⟨⟨x, rfl, hx⟩, hb⟩
 exact k x _ _ hx (he.putO _ _ h.hd) (hm.kb (KB.of_below hb))
theorem tq (i : Nat) (hi : ops.toList[i]? = some op) (he : EV a n d env) (hm : MM S w0 w L) {f : FuncId} {args : Array Value} {v : α → Value} {Φ : α → Prop} (hc : Calls P f args w fun e w' => AnyR w v Φ e w')
 (k : ∀ x a' w', Φ x → EV a' n d (putE env op.dst (v x)) → MM S w0 w' L → wpAnyH P .any ops Q (fun w' => MM S w0 w' Ls) fuel (listed.setIfInBounds i true) a' w')
 (h : UpIs ops listed i n env op f args := by unfold UpIs; kernel_rfl) (hf : ∀ args w, (callFunc f args).run P w = .ok (.enter f args) w := by intros; kernel_rfl) (hS : SubL L Ls := by (repeat refine ⟨rfl, ?_⟩); trivial) : wpAnyH P .any ops Q (fun w' => MM S w0 w' Ls) (fuel + 1) listed a w := by
 rw [Array.getElem?_toList] at hi
 refine wh_one (congrArg (·.1) h) hi (he.want (congrArg (·.2.2.1) h)) fun K hK => ?_
 unfold Oper.wp
 rw [he.call (congrArg (·.2.2.2) h) hf w]
 refine hc.mono ?_
 rintro e w' ⟨⟨x, rfl, hx⟩, hb⟩
 have mm := hm.kb (KB.of_below hb)
 exact hK _ _ (mm.sub Ls hS) (k x _ _ hx (he.putO _ _ (congrArg (·.2.1) h)) mm)
theorem sq {i : Nat} (he : EV a n d env) (hm : MM S w0 w L) {f : FuncId} {args : Array Value} {v : α → Value} {Φ : α → Prop} (hc : Calls P f args w fun e w' => AnyR w v Φ e w')
 (k : ∀ x a' w', Φ x → EV a' n d (putE env op.dst (v x)) → MM S w0 w' L → wpAnyH P .any ops Q (fun w' => MM S w0 w' Ls) fuel (listed.setIfInBounds i true) a' w') (h : CallIs ops n env op f args := by unfold CallIs; kernel_rfl) (hf : ∀ args w, (callFunc f args).run P w = .ok (.enter f args) w := by intros; kernel_rfl) (hS : SubL L Ls := by (repeat refine ⟨rfl, ?_⟩); trivial) :
 ∀ K' : Act → World → Prop, Shut (∀ a w, MM S w0 w Ls → (MM S w0 w Ls → wpAnyH P .any ops Q (fun w' => MM S w0 w' Ls) fuel (listed.setIfInBounds i true) a w) → K' a w) → if Region.wanted op (yielded ops a.tmps) = true then Oper.wp P op a w K' Q else K' (a.put op.dst undef) w := by
 intro K hK
 rw [if_pos (he.want h.hw)]
 unfold Oper.wp
 rw [he.call h.hc hf w]
 refine hc.mono ?_
 rintro e w' ⟨⟨x, rfl, hx⟩, hb⟩
 have mm := hm.kb (KB.of_below hb)
 exact hK.out _ _ (mm.sub Ls hS) fun _ => k x _ _ hx (he.putO _ _ h.hd) mm
theorem saddE_is {p q z : ByteArray} (h : saddE env op.op = some (p, q)) (he : EV a n d env) (hz : z = p ++ q) (hs : p.size + q.size ≤ 9223372036854775807) (w : World) : (execOp a.eval op).run P w = .ok (.value (.string z)) w := by
 unfold saddE at h
 split at h
 ·rename_i T x y U ho
  split at h
  ·rename_i p' q' h1 h2
   cases h
   exact rn_saddZ T U x y ho p q (he.evO h1) (he.evO h2) hs z hz
  ·cases h
 ·cases h
theorem kz (he : EV a n d env) {p q z : ByteArray} (hz : z = p ++ q) (k : ∀ a', EV a' n d (putE env op.dst (.string z)) → wpList P ops Q rest a' w) (h : (dstE op n, wantE ops env op, saddE env op.op) = (true, some true, some (p, q)) := by kernel_rfl) (hs : p.size + q.size ≤ 9223372036854775807 := by omega) : wpList P ops Q (op :: rest) a w :=
 wl_val he (congrArg (·.1) h) (he.want (congrArg (·.2.1) h)) _ (saddE_is (congrArg (·.2.2) h) he hz hs w) k
theorem tz (i : Nat) (hi : ops.toList[i]? = some op) (he : EV a n d env) (hm : MM S w0 w L) {p q z : ByteArray} (hz : z = p ++ q) (k : ∀ a', EV a' n d (putE env op.dst (.string z)) → wpAnyH P .any ops Q (fun w' => MM S w0 w' Ls) fuel (listed.setIfInBounds i true) a' w)
 (h : (Region.noSelect ops, Region.free .any ops listed i, (Region.ready .any ops listed).contains i, dstE op n, wantE ops env op) = (true, true, true, true, some true) := by kernel_rfl) (h2 : saddE env op.op = some (p, q) := by kernel_rfl) (hs : p.size + q.size ≤ 9223372036854775807 := by omega) (hq : ∀ t v c a w, Q (.panic c) (Act.put a t v) w → Q (.panic c) a w := by intro t v c a w h; cases t <;> exact h) (hS : SubL L Ls := by (repeat refine ⟨rfl, ?_⟩); trivial) : wpAnyH P .any ops Q (fun w' => MM S w0 w' Ls) (fuel + 1) listed a w :=
 tv i hi he hm (.string z) (fun w' _ => saddE_is h2 he hz hs w') k h hq hS
theorem st_val {i : Nat} (he : EV a n d env) (hm : MM S w0 w L) (hS : SubL L Ls) (hd : op.dst.all (· < n) = true) (hw : Region.wanted op (yielded ops a.tmps) = true) (v : Value) (hy : (execOp a.eval op).run P w = .ok (.value v) w)
 (k : ∀ a', EV a' n d (putE env op.dst v) → wpAnyH P .any ops Q (fun w' => MM S w0 w' Ls) fuel (listed.setIfInBounds i true) a' w) :
 ∀ K' : Act → World → Prop, Shut (∀ a w, MM S w0 w Ls → (MM S w0 w Ls → wpAnyH P .any ops Q (fun w' => MM S w0 w' Ls) fuel (listed.setIfInBounds i true) a w) → K' a w) → if Region.wanted op (yielded ops a.tmps) = true then Oper.wp P op a w K' Q else K' (a.put op.dst undef) w := by
 intro K hK
 rw [if_pos hw]
 unfold Oper.wp
 rw [hy]
 exact hK.out _ _ (hm.sub Ls hS) fun _ => k _ (he.putO _ _ hd)
theorem sv {i : Nat} (he : EV a n d env) (hm : MM S w0 w L) (v : Value) (hy : (execOp a.eval op).run P w = .ok (.value v) w)
 (k : ∀ a', EV a' n d (putE env op.dst v) → wpAnyH P .any ops Q (fun w' => MM S w0 w' Ls) fuel (listed.setIfInBounds i true) a' w) (h : (dstE op n, wantE ops env op) = (true, some true) := by kernel_rfl) (hS : SubL L Ls := by (repeat refine ⟨rfl, ?_⟩); trivial) :
 ∀ K' : Act → World → Prop, Shut (∀ a w, MM S w0 w Ls → (MM S w0 w Ls → wpAnyH P .any ops Q (fun w' => MM S w0 w' Ls) fuel (listed.setIfInBounds i true) a w) → K' a w) → if Region.wanted op (yielded ops a.tmps) = true then Oper.wp P op a w K' Q else K' (a.put op.dst undef) w :=
 st_val he hm hS (congrArg (·.1) h) (he.want (congrArg (·.2) h)) v hy k
theorem results_cct {fn : Func} (he : EV a n d env) (hm : MM S w0 w L) (t : Tmp) (T : TypeId) (u : Tmp) (U : TypeId) (s : Tmp) (hres : fn.results = #[.cell t T, .cell u U, .tmp s]) (b : Nat) (hl : env.lookup t = some (.pointer (some ⟨b, 0, none⟩))) (key : Nat) {o : Bool} {T0 : TypeId} {A : Array Value}
 (hk : L.lookup key = some ⟨o, b, T0, A⟩) (m : Nat) (hT : AggT P T m) (hz : A.size = m) (b2 : Nat) (hl2 : env.lookup u = some (.pointer (some ⟨b2, 0, none⟩))) (key2 : Nat) {o2 : Bool} {T2 : TypeId} {A2 : Array Value}
 (hk2 : L.lookup key2 = some ⟨o2, b2, T2, A2⟩) (m2 : Nat) (hT2 : AggT P U m2) (hz2 : A2.size = m2) (v : Value) (hv : env.lookup s = some v) : (results fn a.tmps).run P w = .ok (.tuple #[.agg A, .agg A2, v]) w := by
 have go : ∀ (b : Nat) (T0 : TypeId) (A : Array Value) (m : Nat), BX w b T0 A → A.size = m → (loadCells ⟨b, 0, none⟩ m).run P w = .ok A w := by
  intro b T0 A m hb hz
  have hr := World.rangeAt_of_block (w := w) (b := b) (C := A) (t := T0) (fr := (0, 0)) hb 0 m
  have hC : A.extract 0 (0 + m) = A := by rw [Nat.zero_add, ← hz]; exact Array.extract_size
  have := run_loadCells_list (P := P) w ⟨b, 0, none⟩ (A.extract 0 (0 + m)).toList (fun j v hv => by rw [Addr.add_mid]; exact hr j v hv)
  rw [hC] at this
  simpa [hz] using this
 simp only [results, hres]
 simp [he.has t _ hl, he.at t _ hl, he.has u _ hl2, he.at u _ hl2, he.has s _ hv, he.at s _ hv, asAddr, loadVar, Sem.run_bind, hT.agg, hT.size, hT2.agg, hT2.size, go _ _ _ _ (hm.has key _ hk) hz, go _ _ _ _ (hm.has key2 _ hk2) hz2, Result.andThen]
end
theorem cat2 (p q : ByteArray) : ∃ z, z = p ++ q ∧ z.size = p.size + q.size := ⟨_, rfl, ByteArray.size_append⟩
theorem vl0 : ([] : List Value) = [] := rfl
theorem vlc {u v : Value} {us vs : List Value} (h : u = v) (r : us = vs) : u :: us = v :: vs := by rw [h, r]
theorem vb {x b : Bool} {us vs : List Value} (h : x = b) (r : us = vs) : .bool x :: us = .bool b :: vs := by rw [h, r]
theorem va (x y : Int) {us vs : List Value} (r : us = vs) (h1 : -9223372036854775808 ≤ x + y := by omega) (h2 : x + y ≤ 9223372036854775807 := by omega) : .int .i64 (IntKind.wrap .i64 (x + y)) :: us = .int .i64 (x + y) :: vs := vlc (addw h1 h2) r
theorem vs (x y : Int) {us vs : List Value} (r : us = vs) (h1 : -9223372036854775808 ≤ x - y := by omega) (h2 : x - y ≤ 9223372036854775807 := by omega) : .int .i64 (IntKind.wrap .i64 (x - y)) :: us = .int .i64 (x - y) :: vs := vlc (subw h1 h2) r
theorem vn (x y : Nat) {us vs : List Value} (r : us = vs) (h : x + y ≤ 9223372036854775807 := by omega) : .int .i64 (IntKind.wrap .i64 ((x : Int) + (y : Int))) :: us = .int .i64 ((x + y : Nat) : Int) :: vs := vlc (addN h) r
abbrev zI (x : Int) : Value := .int .i64 x
abbrev zN (x : Nat) : Value := .int .i64 (x : Int)
abbrev zP (b o : Nat) : Value := .pointer (some ⟨b, o, none⟩)
abbrev zS (b n c : Nat) : Value := .slice (some ⟨b, 0, none⟩) n c
abbrev zT : Value := .bool true
abbrev zF : Value := .bool false
abbrev zU : Value := undef
abbrev zE (b : Nat) (T : TypeId) (A : Array Value) : Ent := ⟨true, b, T, A⟩
theorem e1 {P : Program} {Q : Exit → Act → World → Prop} {a : Act} {w : World} {id : Nat} {l ops : List Oper} {y : Code} (h : wpList P l.toArray (Exit.then (y.wp P Q) Q) l a w) : wpList P ops.toArray (Exit.then ((Code.seq (.region id l.toArray false) y).wp P Q) Q) [] a w := wl_end (wp_seqR h)
end Go.Proofs.Ytkaekiodjjhjkaa
namespace Go.Proofs.Ytkaekiodjjhjkaa
open Go.RowKit
def tbSz : TypeId → Option (Bool × Nat)
 | 3 => some (false, 1)
 | 5 => some (false, 1)
 | 9 => some (false, 1)
 | 22 => some (false, 1)
 | 30 => some (true, 5)
 | 42 => some (false, 1)
 | 44 => some (true, 5)
 | 56 => some (true, 4)
 | 84 => some (false, 1)
 | 86 => some (true, 6)
 | 89 => some (true, 5)
 | _ => none
def tbFo : TypeId → Nat → Option Nat
 | 30, 0 => some 0
 | 30, 1 => some 1
 | 30, 2 => some 2
 | 30, 3 => some 3
 | 30, 4 => some 4
 | 44, 1 => some 1
 | 44, 3 => some 3
 | 44, 4 => some 4
 | 56, 0 => some 0
 | 56, 1 => some 1
 | 56, 2 => some 2
 | 56, 3 => some 3
 | 67, 0 => some 0
 | 67, 1 => some 1
 | 86, 0 => some 0
 | 86, 1 => some 1
 | 86, 2 => some 2
 | 86, 3 => some 3
 | 86, 4 => some 4
 | 86, 5 => some 5
 | 89, 0 => some 0
 | 89, 1 => some 1
 | 89, 2 => some 2
 | 89, 3 => some 3
 | 89, 4 => some 4
 | _, _ => none
theorem one3 : OneT Try.prog 3 := ⟨fun w => by kernel_rfl, fun w => by kernel_rfl⟩
theorem agg56 : AggT Try.prog 56 4 := ⟨fun w => by kernel_rfl, fun w => by kernel_rfl⟩
theorem agg86 : AggT Try.prog 86 6 := ⟨fun w => by kernel_rfl, fun w => by kernel_rfl⟩
def tb : Tab Try.prog where
 sz := tbSz
 fo := tbFo
 one := by intro T m h; unfold tbSz at h; split at h <;> first | (cases h; done) | (cases h; exact ⟨fun w => by kernel_rfl, fun w => by kernel_rfl⟩)
 szm := by intro T q m h; unfold tbSz at h; split at h <;> first | (cases h; done) | (cases h; exact fun w => by kernel_rfl)
 agg := by intro T m h; unfold tbSz at h; split at h <;> first | (cases h; done) | (cases h; exact ⟨fun w => by kernel_rfl, fun w => by kernel_rfl⟩)
 fld := by intro T f o h b off w; unfold tbFo at h; split at h <;> first | (cases h; done) | (cases h; kernel_rfl)
section
variable {ops : Array Oper} {Q : Exit → Act → World → Prop} {rest : List Oper} {a : Act} {w w0 : World} {S : List Nat} {L Ls : List (Nat × Ent)} {fuel : Nat} {listed : Array Bool}
 {n : Nat} {d : List Deferred} {env : List (Nat × Value)}
theorem wr (hs : List Nat) (he : EV a n d env) (hm : MM S w0 w L) (new : List (Nat × Value)) (xs : List Nat) {us vs : List Value} (hv : us = vs) (k : ∀ a' w', EV a' n d (new ++ env) → MM S w0 w' L → wpList Try.prog ops Q (rest.drop hs.length) a' w')
 (h : runM tb ops n hs rest ⟨env, L, [], [], [], [], vs.reverse⟩ = some ⟨new ++ env, L, xs, xs, us, vs, []⟩ := by kernel_rfl) : wpList Try.prog ops Q rest a w := wrT tb hs he hm new xs hv k h
theorem wm (hs : List Nat) (he : EV a n d env) (hm : MM S w0 w L) (new : List (Nat × Value)) (newL : List (Nat × Ent)) (xs : List Nat) {us vs : List Value} (hv : us = vs) (k : ∀ a' w', EV a' n d (new ++ env) → MM S w0 w' (newL ++ L) → wpList Try.prog ops Q (rest.drop hs.length) a' w')
 (h : runM tb ops n hs rest ⟨env, L, [], [], [], [], vs.reverse⟩ = some ⟨new ++ env, newL ++ L, xs, xs, us, vs, []⟩ := by kernel_rfl) : wpList Try.prog ops Q rest a w := wmT tb hs he hm new newL xs hv k h
theorem wtd (is : List (Nat × Nat)) (he : EV a n d env) (hm : MM S w0 w L) (new : List (Nat × Value)) (xs : List Nat) {us vs : List Value} (hv : us = vs) (k : ∀ a', EV a' n d (new ++ env) → wpAnyH Try.prog .any ops Q (fun w' => MM S w0 w' Ls) fuel (setAll listed (is.map (·.1))) a' w)
 (h : (Region.noSelect ops, runD tb ops n is listed ⟨env, Ls, [], [], [], [], vs.reverse⟩) = (true, some ⟨new ++ env, Ls, xs, xs, us, vs, []⟩) := by kernel_rfl) (hq : ∀ t v c a w, Q (.panic c) (Act.put a t v) w → Q (.panic c) a w := by intro t v c a w h; cases t <;> exact h) (hS : SubL L Ls := by (repeat refine ⟨rfl, ?_⟩); trivial) : wpAnyH Try.prog .any ops Q (fun w' => MM S w0 w' Ls) (fuel + is.length) listed a w := wtdT tb is he hm hS new xs hv k h hq
end
end Go.Proofs.Ytkaekiodjjhjkaa
namespace Go.Proofs.Ytkaekiodjjhjkaa.W
open Go.RowKit
theorem one3 : OneT Try.prog 3 := ⟨fun w => by kernel_rfl, fun w => by kernel_rfl⟩
theorem agg30 : AggT Try.prog 30 5 := ⟨fun w => by kernel_rfl, fun w => by kernel_rfl⟩
theorem c_in (n lo hi : Int) (w : World)  :
 Calls Try.prog 56 #[.int .i64 (n), .int .i64 (lo), .int .i64 (hi)] w fun e w' => e = .returned (.bool (inR n lo hi)) ∧ Below w.heap.size w w' := by
 refine calls_begin Try.func56 rfl 15 rfl (Nat.le_of_ble_eq_true rfl) [(0, .int .i64 (n)), (1, .int .i64 (lo)), (2, .int .i64 (hi))] ⟨rfl, rfl, rfl, trivial⟩ (fun a0 he0 hm0 => ?_)
 refine wp_seqR ?_
 refine wb 1 he0 [(6, zF)] fun a1 he1 => ?_
 refine wl_end (wp_seqR ?_)
 refine wb 2 he1 [(8, zI lo), (7, zI n)] fun a2 he2 => ?_
 cases hd1 : (decide (n ≥ lo))
 ·
  have hd1p := of_decide_eq_false hd1
  refine wr [1, 0, 0, 0, 0, 0, 0] he2 hm0 [(6, zF), (14, zF), (13, zU), (12, zU), (11, zU), (10, zF), (9, zF)] [] (vb (hd1) vl0) fun a3 w1 he3 hm1 => ?_
  refine wl_end (wp_ret ?_)
  exact bodyPost_ret (results_tmp he3 _ Try.results56 (.bool false) rfl) he3.defers ⟨(by simp [inR, hd1]), hm1.below⟩
 ·
  have hd1p := of_decide_eq_true hd1
  refine wr [1, 0, 0, 0] he2 hm0 [(12, zI hi), (11, zI n), (10, zT), (9, zT)] [] (vb (hd1) vl0) fun a3 w1 he3 hm1 => ?_
  cases hd2 : (decide (n ≤ hi))
  ·
   have hd2p := of_decide_eq_false hd2
   refine wr [1, 0, 0] he3 hm1 [(6, zF), (14, zF), (13, zF)] [] (vb (hd2) vl0) fun a4 w2 he4 hm2 => ?_
   refine wl_end (wp_ret ?_)
   exact bodyPost_ret (results_tmp he4 _ Try.results56 (.bool false) rfl) he4.defers ⟨(by simp [inR, hd1, hd2]), hm2.below⟩
  ·
   have hd2p := of_decide_eq_true hd2
   refine wr [1, 0, 0] he3 hm1 [(6, zT), (14, zT), (13, zT)] [] (vb (hd2) vl0) fun a4 w2 he4 hm2 => ?_
   refine wl_end (wp_ret ?_)
   exact bodyPost_ret (results_tmp he4 _ Try.results56 (.bool true) rfl) he4.defers ⟨(by simp [inR, hd1, hd2]), hm2.below⟩
theorem c_top  (w : World)  :
 Calls Try.prog 46 #[] w fun e w' => e = .returned (.int .i64 4294967295) ∧ Below w.heap.size w w' := by
 refine calls_begin Try.func46 rfl 1 rfl (Nat.le_of_ble_eq_true rfl) [] trivial (fun a0 he0 hm0 => ?_)
 refine wp_seqR ?_
 refine wb 1 he0 [(0, zI 0)] fun a1 he1 => ?_
 refine wl_end (wp_seqR ?_)
 refine wb 1 he1 [(0, zI 4294967295)] fun a2 he2 => ?_
 refine wl_end (wp_ret ?_)
 exact bodyPost_ret (results_tmp he2 _ Try.results46 (.int .i64 (4294967295)) rfl) he2.defers ⟨rfl, hm0.below⟩
theorem c_rok (r : Ru) (w : World)  :
 Calls Try.prog 34 #[.agg (Ru.arr (r))] w fun e w' => e = .returned (.bool (ruOk r)) ∧ Below w.heap.size w w' := by
 refine calls_begin Try.func34 rfl 37 rfl (Nat.le_of_ble_eq_true rfl) [(0, .agg (Ru.arr (r)))] ⟨rfl, trivial⟩ (fun a0 he0 hm0 => ?_)
 refine wp_seqR ?_
 refine kx he0 hm0 1 (.agg (Ru.arr (r))) (Ru.arr (r)) 30 fun a1 w1 b1 he1 hm1 => ?_
 refine wb 1 he1 [(2, zF)] fun a2 he2 => ?_
 refine wl_end (wp_seq ?_)
 refine wh_begin (by kernel_rfl) hm1 [(1, ⟨true, b1, 30, Ru.arr (r)⟩)] ⟨rfl, trivial⟩ (fun w2 hm2 => ?_)
 refine wtd (fuel := 33) [(0, 0), (1, 3)] he2 hm2 [(4, zI ((r).at_)), (3, zP b1 0)] [b1] vl0 fun a3 he3 => ?_
 cases hd1 : (inR ((r).at_) 0 11)
 ·
  refine tc (fuel := 32) 2 rfl he3 hm2 (v := zF) (callsV (congrArg Value.bool (hd1)) (c_in _ _ _ _)) fun a4 w3 he4 hm3 => ?_
  refine wtb (fuel := 29) [3, 4, 5] he4 hm3 [(8, zU), (7, zU), (6, zF)] fun a5 he5 => ?_
  refine tx (fuel := 28) 6 rfl he5 hm3 fun a6 he6 => ?_
  refine wtb (fuel := 24) [7, 8, 9, 10] he6 hm3 [(13, zU), (12, zU), (11, zF), (10, zF)] fun a7 he7 => ?_
  refine tx (fuel := 23) 11 rfl he7 hm3 fun a8 he8 => ?_
  refine wtb (fuel := 19) [12, 13, 14, 15] he8 hm3 [(18, zU), (17, zU), (16, zF), (15, zF)] fun a9 he9 => ?_
  refine tx (fuel := 18) 16 rfl he9 hm3 fun a10 he10 => ?_
  refine wtb (fuel := 14) [17, 18, 19, 20] he10 hm3 [(23, zU), (22, zU), (21, zF), (20, zF)] fun a11 he11 => ?_
  refine tx (fuel := 13) 21 rfl he11 hm3 fun a12 he12 => ?_
  refine tx (fuel := 12) 22 rfl he12 hm3 fun a13 he13 => ?_
  refine wtb (fuel := 0) [23, 24, 25, 26, 27, 28, 29, 30, 31, 32, 33, 34] he13 hm3 [(2, zF), (36, zF), (35, zU), (34, zU), (33, zU), (32, zU), (31, zU), (30, zU), (29, zU), (28, zU), (27, zF), (26, zF)] fun a14 he14 => ?_
  refine wpAnyH_done (by kernel_rfl) ?_ _
  refine then_normal (wp_ret ?_)
  exact bodyPost_ret (results_tmp he14 _ Try.results34 (.bool false) rfl) he14.defers ⟨(by simp [ruOk, hd1]), hm3.below⟩
 ·
  refine tc (fuel := 32) 2 rfl he3 hm2 (v := zT) (callsV (congrArg Value.bool (hd1)) (c_in _ _ _ _)) fun a4 w3 he4 hm3 => ?_
  refine wtd (fuel := 29) [(3, 0), (4, 0), (5, 3)] he4 hm3 [(8, zI ((r).op)), (7, zP b1 1), (6, zT)] [b1] vl0 fun a5 he5 => ?_
  cases hd2 : (inR ((r).op) 12 15)
  ·
   refine tc (fuel := 28) 6 rfl he5 hm3 (v := zF) (callsV (congrArg Value.bool (hd2)) (c_in _ _ _ _)) fun a6 w4 he6 hm4 => ?_
   refine wtb (fuel := 24) [7, 8, 9, 10] he6 hm4 [(13, zU), (12, zU), (11, zF), (10, zF)] fun a7 he7 => ?_
   refine tx (fuel := 23) 11 rfl he7 hm4 fun a8 he8 => ?_
   refine wtb (fuel := 19) [12, 13, 14, 15] he8 hm4 [(18, zU), (17, zU), (16, zF), (15, zF)] fun a9 he9 => ?_
   refine tx (fuel := 18) 16 rfl he9 hm4 fun a10 he10 => ?_
   refine wtb (fuel := 14) [17, 18, 19, 20] he10 hm4 [(23, zU), (22, zU), (21, zF), (20, zF)] fun a11 he11 => ?_
   refine tx (fuel := 13) 21 rfl he11 hm4 fun a12 he12 => ?_
   refine tx (fuel := 12) 22 rfl he12 hm4 fun a13 he13 => ?_
   refine wtb (fuel := 0) [23, 24, 25, 26, 27, 28, 29, 30, 31, 32, 33, 34] he13 hm4 [(2, zF), (36, zF), (35, zU), (34, zU), (33, zU), (32, zU), (31, zU), (30, zU), (29, zU), (28, zU), (27, zF), (26, zF)] fun a14 he14 => ?_
   refine wpAnyH_done (by kernel_rfl) ?_ _
   refine then_normal (wp_ret ?_)
   exact bodyPost_ret (results_tmp he14 _ Try.results34 (.bool false) rfl) he14.defers ⟨(by simp [ruOk, hd1, hd2]), hm4.below⟩
  ·
   refine tc (fuel := 28) 6 rfl he5 hm3 (v := zT) (callsV (congrArg Value.bool (hd2)) (c_in _ _ _ _)) fun a6 w4 he6 hm4 => ?_
   refine wtd (fuel := 24) [(7, 0), (8, 0), (9, 0), (10, 3)] he6 hm4 [(13, zI ((r).num)), (12, zP b1 2), (11, zT), (10, zT)] [b1] vl0 fun a7 he7 => ?_
   cases hd3 : (inR ((r).num) 0 255)
   ·
    refine tc (fuel := 23) 11 rfl he7 hm4 (v := zF) (callsV (congrArg Value.bool (hd3)) (c_in _ _ _ _)) fun a8 w5 he8 hm5 => ?_
    refine wtb (fuel := 19) [12, 13, 14, 15] he8 hm5 [(18, zU), (17, zU), (16, zF), (15, zF)] fun a9 he9 => ?_
    refine tx (fuel := 18) 16 rfl he9 hm5 fun a10 he10 => ?_
    refine wtb (fuel := 14) [17, 18, 19, 20] he10 hm5 [(23, zU), (22, zU), (21, zF), (20, zF)] fun a11 he11 => ?_
    refine tx (fuel := 13) 21 rfl he11 hm5 fun a12 he12 => ?_
    refine tx (fuel := 12) 22 rfl he12 hm5 fun a13 he13 => ?_
    refine wtb (fuel := 0) [23, 24, 25, 26, 27, 28, 29, 30, 31, 32, 33, 34] he13 hm5 [(2, zF), (36, zF), (35, zU), (34, zU), (33, zU), (32, zU), (31, zU), (30, zU), (29, zU), (28, zU), (27, zF), (26, zF)] fun a14 he14 => ?_
    refine wpAnyH_done (by kernel_rfl) ?_ _
    refine then_normal (wp_ret ?_)
    exact bodyPost_ret (results_tmp he14 _ Try.results34 (.bool false) rfl) he14.defers ⟨(by simp [ruOk, hd1, hd2, hd3]), hm5.below⟩
   ·
    refine tc (fuel := 23) 11 rfl he7 hm4 (v := zT) (callsV (congrArg Value.bool (hd3)) (c_in _ _ _ _)) fun a8 w5 he8 hm5 => ?_
    refine wtd (fuel := 19) [(12, 0), (13, 0), (14, 0), (15, 3)] he8 hm5 [(18, zI ((r).ver)), (17, zP b1 3), (16, zT), (15, zT)] [b1] vl0 fun a9 he9 => ?_
    cases hd4 : (inR ((r).ver) 0 2)
    ·
     refine tc (fuel := 18) 16 rfl he9 hm5 (v := zF) (callsV (congrArg Value.bool (hd4)) (c_in _ _ _ _)) fun a10 w6 he10 hm6 => ?_
     refine wtb (fuel := 14) [17, 18, 19, 20] he10 hm6 [(23, zU), (22, zU), (21, zF), (20, zF)] fun a11 he11 => ?_
     refine tx (fuel := 13) 21 rfl he11 hm6 fun a12 he12 => ?_
     refine tx (fuel := 12) 22 rfl he12 hm6 fun a13 he13 => ?_
     refine wtb (fuel := 0) [23, 24, 25, 26, 27, 28, 29, 30, 31, 32, 33, 34] he13 hm6 [(2, zF), (36, zF), (35, zU), (34, zU), (33, zU), (32, zU), (31, zU), (30, zU), (29, zU), (28, zU), (27, zF), (26, zF)] fun a14 he14 => ?_
     refine wpAnyH_done (by kernel_rfl) ?_ _
     refine then_normal (wp_ret ?_)
     exact bodyPost_ret (results_tmp he14 _ Try.results34 (.bool false) rfl) he14.defers ⟨(by simp [ruOk, hd1, hd2, hd3, hd4]), hm6.below⟩
    ·
     refine tc (fuel := 18) 16 rfl he9 hm5 (v := zT) (callsV (congrArg Value.bool (hd4)) (c_in _ _ _ _)) fun a10 w6 he10 hm6 => ?_
     refine wtd (fuel := 14) [(17, 0), (18, 0), (19, 0), (20, 3)] he10 hm6 [(23, zI ((r).key)), (22, zP b1 4), (21, zT), (20, zT)] [b1] vl0 fun a11 he11 => ?_
     refine tc (fuel := 13) 21 rfl he11 hm6 (v := zI 4294967295) (c_top _) fun a12 w7 he12 hm7 => ?_
     cases hd5 : (inR ((r).key) 0 4294967295)
     ·
      refine tc (fuel := 12) 22 rfl he12 hm7 (v := zF) (callsV (congrArg Value.bool (hd5)) (c_in _ _ _ _)) fun a13 w8 he13 hm8 => ?_
      refine wtb (fuel := 0) [23, 24, 25, 26, 27, 28, 29, 30, 31, 32, 33, 34] he13 hm8 [(2, zF), (36, zF), (35, zU), (34, zU), (33, zU), (32, zU), (31, zU), (30, zU), (29, zU), (28, zU), (27, zF), (26, zF)] fun a14 he14 => ?_
      refine wpAnyH_done (by kernel_rfl) ?_ _
      refine then_normal (wp_ret ?_)
      exact bodyPost_ret (results_tmp he14 _ Try.results34 (.bool false) rfl) he14.defers ⟨(by simp [ruOk, hd1, hd2, hd3, hd4, hd5]), hm8.below⟩
     ·
      refine tc (fuel := 12) 22 rfl he12 hm7 (v := zT) (callsV (congrArg Value.bool (hd5)) (c_in _ _ _ _)) fun a13 w8 he13 hm8 => ?_
      refine wtd (fuel := 8) [(23, 0), (24, 0), (25, 0), (26, 3)] he13 hm8 [(29, zI ((r).ver)), (28, zP b1 3), (27, zT), (26, zT)] [b1] vl0 fun a14 he14 => ?_
      cases hd6 : (((r).ver == 2))
      ·
       have hd6p : (r).ver ≠ 2 := by simpa using hd6
       refine wtd (fuel := 4) [(27, 1), (28, 0), (29, 0), (30, 3)] he14 hm8 [(33, zI ((r).key)), (32, zP b1 4), (31, zF), (30, zF)] [b1] (vb (hd6) vl0) fun a15 he15 => ?_
       cases hd7 : (((r).key == 0))
       ·
        have hd7p : (r).key ≠ 0 := by simpa using hd7
        refine wtd (fuel := 0) [(31, 1), (32, 0), (33, 0), (34, 0)] he15 hm8 [(2, zF), (36, zF), (35, zF), (34, zF)] [] (vb (hd7) vl0) fun a16 he16 => ?_
        refine wpAnyH_done (by kernel_rfl) ?_ _
        refine then_normal (wp_ret ?_)
        exact bodyPost_ret (results_tmp he16 _ Try.results34 (.bool false) rfl) he16.defers ⟨(by simp [ruOk, hd1, hd2, hd3, hd4, hd5, hd6, hd7]), hm8.below⟩
       ·
        have hd7p : (r).key = 0 := by simpa using hd7
        refine wtd (fuel := 0) [(31, 1), (32, 0), (33, 0), (34, 0)] he15 hm8 [(2, zT), (36, zT), (35, zT), (34, zT)] [] (vb (hd7) vl0) fun a16 he16 => ?_
        refine wpAnyH_done (by kernel_rfl) ?_ _
        refine then_normal (wp_ret ?_)
        exact bodyPost_ret (results_tmp he16 _ Try.results34 (.bool true) rfl) he16.defers ⟨(by simp [ruOk, hd1, hd2, hd3, hd4, hd5, hd6, hd7]), hm8.below⟩
      ·
       have hd6p : (r).ver = 2 := by simpa using hd6
       refine wtd (fuel := 0) [(27, 1), (28, 0), (29, 0), (30, 0), (31, 0), (32, 0), (33, 0), (34, 0)] he14 hm8 [(2, zT), (36, zT), (35, zT), (34, zU), (33, zU), (32, zU), (31, zT), (30, zT)] [] (vb (hd6) vl0) fun a15 he15 => ?_
       refine wpAnyH_done (by kernel_rfl) ?_ _
       refine then_normal (wp_ret ?_)
       exact bodyPost_ret (results_tmp he15 _ Try.results34 (.bool true) rfl) he15.defers ⟨(by simp [ruOk, hd1, hd2, hd3, hd4, hd5, hd6]), hm8.below⟩
theorem c_oks (f : Nat → Ru) (b p n c : Nat) (w : World) (hR : RowAt w b p n 5 fun i => (f i).arr) (hn : n ≤ 1048576) :
 Calls Try.prog 18 #[.slice (some ⟨b, p, none⟩) (n) (c)] w fun e w' => e = .returned (.bool (ruOks f n)) ∧ Below w.heap.size w w' := by
 refine calls_begin Try.func18 rfl 19 rfl (Nat.le_of_ble_eq_true rfl) [(0, .slice (some ⟨b, p, none⟩) (n) (c))] ⟨rfl, trivial⟩ (fun a0 he0 hm0 => ?_)
 refine wp_seqR ?_
 refine wb 1 he0 [(2, zF)] fun a1 he1 => ?_
 refine wl_end (wp_seq (wp_seqR ?_))
 refine wb 1 he1 [(3, zI 0)] fun a2 he2 => ?_
 refine wl_end (wp_block ?_)
 refine wp_loopN (fun mz az wz => ∃ (i : Nat), mz = n - (i) ∧ (i ≤ n ∧ ∀ j, j < i → ruOk (f j) = true) ∧ EV az 19 [] [(0, .slice (some ⟨b, p, none⟩) (n) (c)), (3, .int .i64 (((i : Nat) : Int)))] ∧ MM [] w wz []) ⟨_, 0, rfl, ⟨by omega, fun j hj => by omega⟩, he2.sb, hm0.sub _ trivial⟩ ?_
 rintro mz1 a3 w1 ⟨i, rfl, hrel1, he3, hm1⟩
 have hrel1a := hrel1.1
 refine wp_seq (wp_seqR ?_)
 refine wb 2 he3 [(5, .slice (some ⟨b, p, none⟩) (n) (c)), (4, zN i)] fun a4 he4 => ?_
 refine kv he4 (zN n) (rn_builtin _ _ _ rfl #[.slice (some ⟨b, p, none⟩) (n) (c)] (map1 (he4.tmp 5 _ rfl)) (.int .i64 (((n : Nat) : Int))) (by kernel_rfl)) fun a5 he5 => ?_
 cases hd1 : (decide (((i : Nat) : Int) < ((n : Nat) : Int)))
 ·
  have hd1p := of_decide_eq_false hd1
  refine wr [1] he5 hm1 [(7, zF)] [] (vb (hd1) vl0) fun a6 w2 he6 hm2 => ?_
  refine wl_end (wp_condF (he := he6) rfl (wp_exit (exit_then (exit_then (exit_here (then_normal (wp_seqR ?_)))))))
  refine wb 1 he6 [(16, .slice (some ⟨b, p, none⟩) (n) (c))] fun a7 he7 => ?_
  refine kv he7 (zN n) (rn_builtin _ _ _ rfl #[.slice (some ⟨b, p, none⟩) (n) (c)] (map1 (he7.tmp 16 _ rfl)) (.int .i64 (((n : Nat) : Int))) (by kernel_rfl)) fun a8 he8 => ?_
  cases hd2 : (decide (((n : Nat) : Int) ≤ 6))
  ·
   have hd2p := of_decide_eq_false hd2
   refine wr [1, 0] he8 hm2 [(2, zF), (18, zF)] [] (vb (hd2) vl0) fun a9 w3 he9 hm3 => ?_
   refine wl_end (wp_ret ?_)
   exact bodyPost_ret (results_tmp he9 _ Try.results18 (.bool false) rfl) he9.defers ⟨(by first | rw [ruOks, ruAll_no (i := i) (by omega) (by assumption)]; rfl | rw [ruOks, ruAll_yes fun j hj => hrel1.2 j (by omega)]; simp; try omega), hm3.below⟩
  ·
   have hd2p := of_decide_eq_true hd2
   refine wr [1, 0] he8 hm2 [(2, zT), (18, zT)] [] (vb (hd2) vl0) fun a9 w3 he9 hm3 => ?_
   refine wl_end (wp_ret ?_)
   exact bodyPost_ret (results_tmp he9 _ Try.results18 (.bool true) rfl) he9.defers ⟨(by first | rw [ruOks, ruAll_no (i := i) (by omega) (by assumption)]; rfl | rw [ruOks, ruAll_yes fun j hj => hrel1.2 j (by omega)]; simp; try omega), hm3.below⟩
 ·
  have hd1p := of_decide_eq_true hd1
  refine wr [1] he5 hm1 [(7, zT)] [] (vb (hd1) vl0) fun a6 w2 he6 hm2 => ?_
  refine wl_end (wp_condT (he := he6) rfl (wp_skip (then_normal (wp_seq (wp_block (wp_seqR ?_))))))
  refine wb 2 he6 [(11, zN i), (10, .slice (some ⟨b, p, none⟩) (n) (c))] fun a7 he7 => ?_
  refine kv he7 (.pointer (some ⟨b, p + i * 5, none⟩)) (rn_indexA _ _ _ rfl _ _ (.pointer (some ⟨b, p + i * 5, none⟩)) (he7.tmp 10 _ rfl) (he7.tmp 11 _ rfl) (ixS 30 5 (by kernel_rfl) (fun w => by kernel_rfl) (b) (p) (n) (c) (i) (by omega) _)) fun a8 he8 => ?_
  refine krA he8 hm2 agg30 hR (i) fun a9 he9 => ?_
  cases hd2 : (ruOk (f i))
  ·
   refine kc he9 hm2 (v := zF) (callsV (congrArg Value.bool (hd2)) (c_rok _ _)) fun a10 w3 he10 hm3 => ?_
   refine wb 1 he10 [(15, zT)] fun a11 he11 => ?_
   refine wl_end (wp_condT (he := he11) rfl (wp_seqR ?_))
   refine wb 1 he11 [(2, zF)] fun a12 he12 => ?_
   refine wl_end (wp_ret (ret_in (ret_then (ret_then (ret_in (ret_then ?_))))))
   exact bodyPost_ret (results_tmp he12 _ Try.results18 (.bool false) rfl) he12.defers ⟨(by first | rw [ruOks, ruAll_no (i := i) (by omega) (by assumption)]; rfl | rw [ruOks, ruAll_yes fun j hj => hrel1.2 j (by omega)]; simp; try omega), hm3.below⟩
  ·
   refine kc he9 hm2 (v := zT) (callsV (congrArg Value.bool (hd2)) (c_rok _ _)) fun a10 w3 he10 hm3 => ?_
   refine wb 1 he10 [(15, zF)] fun a11 he11 => ?_
   refine wl_end (wp_condF (he := he11) rfl (wp_skip (in_normal (then_normal (wp_region_lit ?_)))))
   refine wr [0, 1, 0] he11 hm3 [(3, zN (i + 1)), (9, zN (i + 1)), (8, zN i)] [] (vn i 1 vl0) fun a12 w4 he12 hm4 => ?_
   refine wpList_nil ?_
   exact ⟨n - (i + 1), by omega, i + 1, rfl, ⟨by omega, fun j hj => by rcases Nat.lt_or_ge j i with hh | hh; exact hrel1.2 j hh; rw [show j = i by omega]; assumption⟩, he12.sb, hm4.sub _ trivial⟩
end Go.Proofs.Ytkaekiodjjhjkaa.W
namespace Go.Proofs.Ytkaekiodjjhjkaa.W
open Go.RowKit
theorem el30 : ElT Try.prog 23 30 (.agg #[.int .i64 0, .int .i64 0, .int .i64 0, .int .i64 0, .int .i64 0]) 5 40 := ⟨by kernel_rfl, by kernel_rfl, by kernel_rfl, by decide⟩
theorem ovw_size : ∀ (l : List Value) (A : Array Value) (o : Nat), (ovw A o l).size = A.size
 | [], _, _ => rfl
 | v :: l, A, o => by rw [ovw, ovw_size l]; simp
theorem ovw_get : ∀ (l : List Value) (A : Array Value) (o m : Nat), o + l.length ≤ A.size → (ovw A o l)[m]? = if o ≤ m ∧ m < o + l.length then l[m - o]? else A[m]?
 | [], A, o, m, _ => by rw [ovw, if_neg (by rintro ⟨h1, h2⟩; simp at h2; omega)]
 | v :: l, A, o, m, h => by
   simp only [List.length_cons] at h ⊢
   rw [ovw, ovw_get l _ (o + 1) m (by simp; omega)]
   rcases Nat.lt_trichotomy m o with hm | hm | hm
   ·rw [if_neg (by omega), if_neg (by omega), Array.getElem?_setIfInBounds_ne (by omega)]
   ·subst hm
    rw [if_neg (by omega), if_pos (by omega), Nat.sub_self, Array.getElem?_setIfInBounds_self_of_lt (by omega)]; rfl
   ·by_cases h2 : m < o + 1 + l.length
    ·rw [if_pos (by omega), if_pos (by omega), show m - o = (m - (o + 1)) + 1 by omega, List.getElem?_cons_succ]
    ·rw [if_neg (by omega), if_neg (by omega), Array.getElem?_setIfInBounds_ne (by omega)]
def RuRow (cur : Array Value) (f : Nat → Ru) (k : Nat) : Prop := ∀ i, i < k → ∀ j, j < 5 → cur[0 + i * 5 + j]? = (f i).arr[j]?
theorem RuRow.next {cur : Array Value} {f : Nat → Ru} {k n : Nat} (h : RuRow cur f k) (hs : cur.size = n * 5) (hk : k < n) : RuRow (ovw cur (0 + k * 5) ((f k).arr).toList) f (k + 1) := by
 intro i hi j hj
 have hl : ((f k).arr).toList.length = 5 := rfl
 rw [ovw_get _ _ _ _ (by rw [hl, hs]; omega), hl]
 rcases Nat.lt_or_ge i k with h1 | h1
 ·rw [if_neg (by omega)]; exact h i h1 j hj
 ·obtain rfl : i = k := by omega
  rw [if_pos (by omega), show 0 + i * 5 + j - (0 + i * 5) = j by omega]; simp
theorem RuRow.at {w : World} {b n : Nat} {T : TypeId} {cur : Array Value} {f : Nat → Ru} (h : RuRow cur f n) (hx : BX w b T cur) : RowAt w b 0 n 5 fun i => (f i).arr :=
 ⟨hx.lt, fun i hi j hj => ⟨by rw [hx.cell]; exact h i hi j hj, hj⟩⟩
end Go.Proofs.Ytkaekiodjjhjkaa.W
namespace Go.Proofs.Ytkaekiodjjhjkaa.W
open Go.RowKit
end Go.Proofs.Ytkaekiodjjhjkaa.W
namespace Go.Proofs.Ytkaekiodjjhjkaa.W
open Go.RowKit
structure Iv where
 op : Int
 dst : Int
 src : Int
 off : Int
 imm : Int
 size : Int
def Iv.arr (r : Iv) : Array Value := #[.int .i64 r.op, .int .i64 r.dst, .int .i64 r.src, .int .i64 r.off, .int .i64 r.imm, .int .i64 r.size]
theorem Iv.one (r : Iv) : r.arr.all (·.oneCell') = true := by kernel_rfl
theorem Iv.sz (r : Iv) : r.arr.size = 6 := rfl
theorem agg86 : AggT Try.prog 86 6 := ⟨fun w => by kernel_rfl, fun w => by kernel_rfl⟩
theorem Ru.sz (r : Ru) : r.arr.size = 5 := rfl
def IvRow (cur : Array Value) (f : Nat → Iv) (k : Nat) : Prop := ∀ i, i < k → ∀ j, j < 6 → cur[0 + i * 6 + j]? = (f i).arr[j]?
theorem IvRow.at {w : World} {b n : Nat} {T : TypeId} {cur : Array Value} {f : Nat → Iv} (h : IvRow cur f n) (hx : BX w b T cur) : RowAt w b 0 n 6 fun i => (f i).arr :=
 ⟨hx.lt, fun i hi j hj => ⟨by rw [hx.cell]; exact h i hi j hj, hj⟩⟩
end Go.Proofs.Ytkaekiodjjhjkaa.W
namespace Go.Proofs.Ytkaekiodjjhjkaa.W
open Go.RowKit
theorem agg56 : AggT Try.prog 56 4 := ⟨fun w => by kernel_rfl, fun w => by kernel_rfl⟩
theorem c_one (n : Int) (w : World)  :
 Calls Try.prog 48 #[.int .i64 (n)] w fun e w' => e = .returned (.agg #[.int .i64 n, .int .i64 n, .int .i64 n, .int .i64 0]) ∧ Below w.heap.size w w' := by
 refine calls_begin Try.func48 rfl 7 rfl (Nat.le_of_ble_eq_true rfl) [(0, .int .i64 (n))] ⟨rfl, trivial⟩ (fun a0 he0 hm0 => ?_)
 refine wp_seqR ?_
 refine ka he0 hm0 1 56 (.agg #[.int .i64 0, .int .i64 0, .int .i64 0, .int .i64 0]) (#[zI 0, zI 0, zI 0, zI 0]) fun a1 w1 b1 he1 hm1 => ?_
 refine wl_end (wp_seqR ?_)
 refine wb 3 he1 [(5, zI n), (4, zI n), (3, zI n)] fun a2 he2 => ?_
 refine kv he2 (.agg (#[zI n, zI n, zI n, zI 0])) (rn_build _ _ rfl #[(0, .int .i64 (n)), (1, .int .i64 (n)), (2, .int .i64 (n))] (pmap3 (he2.tmp 3 _ rfl) (he2.tmp 4 _ rfl) (he2.tmp 5 _ rfl)) _ (by kernel_rfl)) fun a3 he3 => ?_
 refine wm [3] he3 hm1 [] [(1, zE b1 56 (#[zI n, zI n, zI n, zI 0]))] [b1] vl0 fun a4 w2 he4 hm2 => ?_
 refine wl_end (wp_ret ?_)
 exact bodyPost_ret (results_cell he4 hm2 _ _ Try.results48 _ rfl 1 rfl 4 agg56 (by first | rfl | assumption)) he4.defers ⟨rfl, hm2.below⟩
theorem c_l9Range (r : Ru) (ua ub uc ud pa pb pc pd qa qb qc qd : Int) (hl ok : Bool) (w : World) (HB : ∀ w, Calls Try.prog 47 #[.int .i64 r.op, .agg #[.int .i64 ua, .int .i64 ub, .int .i64 uc, .int .i64 ud], .agg #[.int .i64 r.num, .int .i64 r.num, .int .i64 r.num, .int .i64 0], .bool hl] w fun e w' => e = .returned (.tuple #[.agg #[.int .i64 pa, .int .i64 pb, .int .i64 pc, .int .i64 pd], .agg #[.int .i64 qa, .int .i64 qb, .int .i64 qc, .int .i64 qd], .bool ok]) ∧ Below w.heap.size w w') :
 Calls Try.prog 26 #[.agg (Ru.arr (r)), .agg (#[.int .i64 (ua), .int .i64 (ub), .int .i64 (uc), .int .i64 (ud)]), .bool (hl)] w fun e w' => e = .returned (.tuple #[.agg #[.int .i64 pa, .int .i64 pb, .int .i64 pc, .int .i64 pd], .bool ok]) ∧ Below w.heap.size w w' := by
 refine calls_begin Try.func26 rfl 25 rfl (Nat.le_of_ble_eq_true rfl) [(0, .agg (Ru.arr (r))), (1, .agg (#[zI ua, zI ub, zI uc, zI ud])), (2, .bool (hl))] ⟨rfl, rfl, rfl, trivial⟩ (fun a0 he0 hm0 => ?_)
 refine wp_seqR ?_
 refine kx he0 hm0 1 (.agg (Ru.arr (r))) (Ru.arr (r)) 30 fun a1 w1 b1 he1 hm1 => ?_
 refine kx he1 hm1 2 (.agg (#[zI ua, zI ub, zI uc, zI ud])) (#[zI ua, zI ub, zI uc, zI ud]) 56 fun a2 w2 b2 he2 hm2 => ?_
 refine ka he2 hm2 3 56 (.agg #[.int .i64 0, .int .i64 0, .int .i64 0, .int .i64 0]) (#[zI 0, zI 0, zI 0, zI 0]) fun a3 w3 b3 he3 hm3 => ?_
 refine wb 1 he3 [(7, zF)] fun a4 he4 => ?_
 refine wl_end (wp_seq ?_)
 refine rg_cut (fun az wz => ∃ (b4 : Nat), ∃ (b5 : Nat), EV az 25 [] [(0, .agg (Ru.arr (r))), (1, .agg (#[zI ua, zI ub, zI uc, zI ud])), (2, .bool (hl)), (3, .pointer (some ⟨b1, 0, none⟩)), (4, .pointer (some ⟨b2, 0, none⟩)), (6, .pointer (some ⟨b3, 0, none⟩)), (7, .bool false), (12, .pointer (some ⟨b1, 1, none⟩)), (13, .int .i64 ((r).op)), (14, .agg (#[zI ua, zI ub, zI uc, zI ud])), (15, .pointer (some ⟨b1, 2, none⟩)), (16, .int .i64 ((r).num)), (18, .bool (hl)), (17, .agg (#[zI ((r).num), zI ((r).num), zI ((r).num), zI 0])), (19, .tuple #[.agg (#[zI pa, zI pb, zI pc, zI pd]), .agg (#[zI qa, zI qb, zI qc, zI qd]), .bool (ok)]), (11, .tuple #[.agg (#[zI pa, zI pb, zI pc, zI pd]), .agg (#[zI qa, zI qb, zI qc, zI qd]), .bool (ok)]), (20, .agg (#[zI pa, zI pb, zI pc, zI pd])), (21, .agg (#[zI qa, zI qb, zI qc, zI qd])), (22, .bool (ok)), (8, .pointer (some ⟨b4, 0, none⟩)), (9, .pointer (some ⟨b5, 0, none⟩)), (10, .bool (ok))] ∧ MM [] w wz [(1, ⟨true, b1, 30, Ru.arr (r)⟩), (2, ⟨true, b2, 56, #[zI ua, zI ub, zI uc, zI ud]⟩), (3, ⟨true, b3, 56, #[zI 0, zI 0, zI 0, zI 0]⟩), (4, ⟨true, b4, 56, #[zI pa, zI pb, zI pc, zI pd]⟩), (5, ⟨true, b5, 56, #[zI qa, zI qb, zI qc, zI qd]⟩)]) ?tree1_ ?cont1_
 case tree1_ =>
  refine wh_begin (by kernel_rfl) hm3 [(1, ⟨true, b1, 30, Ru.arr (r)⟩), (2, ⟨true, b2, 56, #[zI ua, zI ub, zI uc, zI ud]⟩), (3, ⟨true, b3, 56, #[zI 0, zI 0, zI 0, zI 0]⟩)] ⟨rfl, rfl, rfl, trivial⟩ (fun w4 hm4 => ?_)
  refine wtd (fuel := 11) [(0, 0), (1, 3), (2, 4), (3, 0), (4, 3), (6, 0)] he4 hm4 [(18, .bool (hl)), (16, zI ((r).num)), (15, zP b1 2), (14, .agg (#[zI ua, zI ub, zI uc, zI ud])), (13, zI ((r).op)), (12, zP b1 1)] [b1, b2, b1] vl0 fun a5 he5 => ?_
  refine wpAnyH_ready (fuel := 10) (rs := [5, 12, 13]) ?hr1e_7 (by simp) (AllReadyH.cons (o := ?o1e_7_0) ?hi1e_7_0 ?st1e_7_0 (AllReadyH.cons (o := ?o1e_7_1) ?hi1e_7_1 ?st1e_7_1 (AllReadyH.cons (o := ?o1e_7_2) ?hi1e_7_2 ?st1e_7_2 AllReadyH.nil)))
  case hr1e_7 => kernel_rfl
  case hi1e_7_0 => rw [List.getElem?_toArray]; rfl
  case hi1e_7_1 => rw [List.getElem?_toArray]; rfl
  case hi1e_7_2 => rw [List.getElem?_toArray]; rfl
  case st1e_7_0 =>
   refine sc he5 hm4 (v := .agg (#[zI ((r).num), zI ((r).num), zI ((r).num), zI 0])) (c_one _ _) fun a6 w5 he6 hm5 => ?_
   refine wpAnyH_ready (fuel := 9) (rs := [7, 12, 13]) ?hr1e_8 (by simp) (AllReadyH.cons (o := ?o1e_8_0) ?hi1e_8_0 ?st1e_8_0 (AllReadyH.cons (o := ?o1e_8_1) ?hi1e_8_1 ?st1e_8_1 (AllReadyH.cons (o := ?o1e_8_2) ?hi1e_8_2 ?st1e_8_2 AllReadyH.nil)))
   case hr1e_8 => kernel_rfl
   case hi1e_8_0 => rw [List.getElem?_toArray]; rfl
   case hi1e_8_1 => rw [List.getElem?_toArray]; rfl
   case hi1e_8_2 => rw [List.getElem?_toArray]; rfl
   case st1e_8_0 =>
    refine sc he6 hm5 (v := .tuple #[.agg (#[zI pa, zI pb, zI pc, zI pd]), .agg (#[zI qa, zI qb, zI qc, zI qd]), .bool (ok)]) (HB _) fun a7 w6 he7 hm6 => ?_
    refine wtb (fuel := 5) [8, 9, 10, 11] he7 hm6 [(22, .bool (ok)), (21, .agg (#[zI qa, zI qb, zI qc, zI qd])), (20, .agg (#[zI pa, zI pb, zI pc, zI pd])), (11, .tuple #[.agg (#[zI pa, zI pb, zI pc, zI pd]), .agg (#[zI qa, zI qb, zI qc, zI qd]), .bool (ok)])] fun a8 he8 => ?_
    refine up2 (fuel := 4) 12 13 rfl rfl ?st1e_13_0 ?st1e_13_1
    case st1e_13_0 =>
     refine sa he8 hm6 ⟨rfl, rfl, rfl, trivial⟩ 4 56 (.agg #[.int .i64 0, .int .i64 0, .int .i64 0, .int .i64 0]) (#[zI 0, zI 0, zI 0, zI 0]) (fun _ => ⟨rfl, rfl, rfl, trivial⟩) fun a9 w7 b4 he9 hm7 => ?_
     refine up1 (fuel := 3) 13 rfl ?st1e_14_0
     case st1e_14_0 =>
      refine sa he9 hm7 ⟨rfl, rfl, rfl, trivial⟩ 5 56 (.agg #[.int .i64 0, .int .i64 0, .int .i64 0, .int .i64 0]) (#[zI 0, zI 0, zI 0, zI 0]) (fun _ => ⟨rfl, rfl, rfl, trivial⟩) fun a10 w8 b5 he10 hm8 => ?_
      refine ts (fuel := 2) 14 rfl he10 hm8 4 agg56.sz (0) (.agg (#[zI pa, zI pb, zI pc, zI pd])) (#[zI pa, zI pb, zI pc, zI pd]) ⟨rfl, rfl, rfl, trivial⟩ (hin := (by simp)) (hA := (by kernel_rfl)) fun w9 hm9 => ?_
      refine ts (fuel := 1) 15 rfl he10 hm9 5 agg56.sz (0) (.agg (#[zI qa, zI qb, zI qc, zI qd])) (#[zI qa, zI qb, zI qc, zI qd]) ⟨rfl, rfl, rfl, trivial⟩ (hin := (by simp)) (hA := (by kernel_rfl)) fun w10 hm10 => ?_
      refine wtb (fuel := 0) [16] he10 hm10 [(10, .bool (ok))] fun a11 he11 => ?_
      refine wpAnyH_done (by kernel_rfl) ?_ _
      exact ⟨b4, b5, he11.sb, hm10.sb⟩
    case st1e_13_1 =>
     refine sa he8 hm6 ⟨rfl, rfl, rfl, trivial⟩ 5 56 (.agg #[.int .i64 0, .int .i64 0, .int .i64 0, .int .i64 0]) (#[zI 0, zI 0, zI 0, zI 0]) (fun _ => ⟨rfl, rfl, rfl, trivial⟩) fun a9 w7 b5 he9 hm7 => ?_
     refine up1 (fuel := 3) 12 rfl ?st1e_18_0
     case st1e_18_0 =>
      refine sa he9 hm7 ⟨rfl, rfl, rfl, trivial⟩ 4 56 (.agg #[.int .i64 0, .int .i64 0, .int .i64 0, .int .i64 0]) (#[zI 0, zI 0, zI 0, zI 0]) (fun _ => ⟨rfl, rfl, rfl, trivial⟩) fun a10 w8 b4 he10 hm8 => ?_
      refine ts (fuel := 2) 14 rfl he10 hm8 4 agg56.sz (0) (.agg (#[zI pa, zI pb, zI pc, zI pd])) (#[zI pa, zI pb, zI pc, zI pd]) ⟨rfl, rfl, rfl, trivial⟩ (hin := (by simp)) (hA := (by kernel_rfl)) fun w9 hm9 => ?_
      refine ts (fuel := 1) 15 rfl he10 hm9 5 agg56.sz (0) (.agg (#[zI qa, zI qb, zI qc, zI qd])) (#[zI qa, zI qb, zI qc, zI qd]) ⟨rfl, rfl, rfl, trivial⟩ (hin := (by simp)) (hA := (by kernel_rfl)) fun w10 hm10 => ?_
      refine wtb (fuel := 0) [16] he10 hm10 [(10, .bool (ok))] fun a11 he11 => ?_
      refine wpAnyH_done (by kernel_rfl) ?_ _
      exact ⟨b4, b5, he11.sb, hm10.sb⟩
   case st1e_8_1 =>
    refine sa he6 hm5 ⟨rfl, rfl, rfl, trivial⟩ 4 56 (.agg #[.int .i64 0, .int .i64 0, .int .i64 0, .int .i64 0]) (#[zI 0, zI 0, zI 0, zI 0]) (fun _ => ⟨rfl, rfl, rfl, trivial⟩) fun a7 w6 b4 he7 hm6 => ?_
    refine up2 (fuel := 8) 7 13 rfl rfl ?st1e_22_0 ?st1e_22_1
    case st1e_22_0 =>
     refine sc he7 hm6 (v := .tuple #[.agg (#[zI pa, zI pb, zI pc, zI pd]), .agg (#[zI qa, zI qb, zI qc, zI qd]), .bool (ok)]) (HB _) fun a8 w7 he8 hm7 => ?_
     refine wtb (fuel := 4) [8, 9, 10, 11] he8 hm7 [(22, .bool (ok)), (21, .agg (#[zI qa, zI qb, zI qc, zI qd])), (20, .agg (#[zI pa, zI pb, zI pc, zI pd])), (11, .tuple #[.agg (#[zI pa, zI pb, zI pc, zI pd]), .agg (#[zI qa, zI qb, zI qc, zI qd]), .bool (ok)])] fun a9 he9 => ?_
     refine up1 (fuel := 3) 13 rfl ?st1e_27_0
     case st1e_27_0 =>
      refine sa he9 hm7 ⟨rfl, rfl, rfl, trivial⟩ 5 56 (.agg #[.int .i64 0, .int .i64 0, .int .i64 0, .int .i64 0]) (#[zI 0, zI 0, zI 0, zI 0]) (fun _ => ⟨rfl, rfl, rfl, trivial⟩) fun a10 w8 b5 he10 hm8 => ?_
      refine ts (fuel := 2) 14 rfl he10 hm8 4 agg56.sz (0) (.agg (#[zI pa, zI pb, zI pc, zI pd])) (#[zI pa, zI pb, zI pc, zI pd]) ⟨rfl, rfl, rfl, trivial⟩ (hin := (by simp)) (hA := (by kernel_rfl)) fun w9 hm9 => ?_
      refine ts (fuel := 1) 15 rfl he10 hm9 5 agg56.sz (0) (.agg (#[zI qa, zI qb, zI qc, zI qd])) (#[zI qa, zI qb, zI qc, zI qd]) ⟨rfl, rfl, rfl, trivial⟩ (hin := (by simp)) (hA := (by kernel_rfl)) fun w10 hm10 => ?_
      refine wtb (fuel := 0) [16] he10 hm10 [(10, .bool (ok))] fun a11 he11 => ?_
      refine wpAnyH_done (by kernel_rfl) ?_ _
      exact ⟨b4, b5, he11.sb, hm10.sb⟩
    case st1e_22_1 =>
     refine sa he7 hm6 ⟨rfl, rfl, rfl, trivial⟩ 5 56 (.agg #[.int .i64 0, .int .i64 0, .int .i64 0, .int .i64 0]) (#[zI 0, zI 0, zI 0, zI 0]) (fun _ => ⟨rfl, rfl, rfl, trivial⟩) fun a8 w7 b5 he8 hm7 => ?_
     refine up1 (fuel := 7) 7 rfl ?st1e_31_0
     case st1e_31_0 =>
      refine sc he8 hm7 (v := .tuple #[.agg (#[zI pa, zI pb, zI pc, zI pd]), .agg (#[zI qa, zI qb, zI qc, zI qd]), .bool (ok)]) (HB _) fun a9 w8 he9 hm8 => ?_
      refine wtb (fuel := 3) [8, 9, 10, 11] he9 hm8 [(22, .bool (ok)), (21, .agg (#[zI qa, zI qb, zI qc, zI qd])), (20, .agg (#[zI pa, zI pb, zI pc, zI pd])), (11, .tuple #[.agg (#[zI pa, zI pb, zI pc, zI pd]), .agg (#[zI qa, zI qb, zI qc, zI qd]), .bool (ok)])] fun a10 he10 => ?_
      refine ts (fuel := 2) 14 rfl he10 hm8 4 agg56.sz (0) (.agg (#[zI pa, zI pb, zI pc, zI pd])) (#[zI pa, zI pb, zI pc, zI pd]) ⟨rfl, rfl, rfl, trivial⟩ (hin := (by simp)) (hA := (by kernel_rfl)) fun w9 hm9 => ?_
      refine ts (fuel := 1) 15 rfl he10 hm9 5 agg56.sz (0) (.agg (#[zI qa, zI qb, zI qc, zI qd])) (#[zI qa, zI qb, zI qc, zI qd]) ⟨rfl, rfl, rfl, trivial⟩ (hin := (by simp)) (hA := (by kernel_rfl)) fun w10 hm10 => ?_
      refine wtb (fuel := 0) [16] he10 hm10 [(10, .bool (ok))] fun a11 he11 => ?_
      refine wpAnyH_done (by kernel_rfl) ?_ _
      exact ⟨b4, b5, he11.sb, hm10.sb⟩
   case st1e_8_2 =>
    refine sa he6 hm5 ⟨rfl, rfl, rfl, trivial⟩ 5 56 (.agg #[.int .i64 0, .int .i64 0, .int .i64 0, .int .i64 0]) (#[zI 0, zI 0, zI 0, zI 0]) (fun _ => ⟨rfl, rfl, rfl, trivial⟩) fun a7 w6 b5 he7 hm6 => ?_
    refine up2 (fuel := 8) 7 12 rfl rfl ?st1e_39_0 ?st1e_39_1
    case st1e_39_0 =>
     refine sc he7 hm6 (v := .tuple #[.agg (#[zI pa, zI pb, zI pc, zI pd]), .agg (#[zI qa, zI qb, zI qc, zI qd]), .bool (ok)]) (HB _) fun a8 w7 he8 hm7 => ?_
     refine wtb (fuel := 4) [8, 9, 10, 11] he8 hm7 [(22, .bool (ok)), (21, .agg (#[zI qa, zI qb, zI qc, zI qd])), (20, .agg (#[zI pa, zI pb, zI pc, zI pd])), (11, .tuple #[.agg (#[zI pa, zI pb, zI pc, zI pd]), .agg (#[zI qa, zI qb, zI qc, zI qd]), .bool (ok)])] fun a9 he9 => ?_
     refine up1 (fuel := 3) 12 rfl ?st1e_44_0
     case st1e_44_0 =>
      refine sa he9 hm7 ⟨rfl, rfl, rfl, trivial⟩ 4 56 (.agg #[.int .i64 0, .int .i64 0, .int .i64 0, .int .i64 0]) (#[zI 0, zI 0, zI 0, zI 0]) (fun _ => ⟨rfl, rfl, rfl, trivial⟩) fun a10 w8 b4 he10 hm8 => ?_
      refine ts (fuel := 2) 14 rfl he10 hm8 4 agg56.sz (0) (.agg (#[zI pa, zI pb, zI pc, zI pd])) (#[zI pa, zI pb, zI pc, zI pd]) ⟨rfl, rfl, rfl, trivial⟩ (hin := (by simp)) (hA := (by kernel_rfl)) fun w9 hm9 => ?_
      refine ts (fuel := 1) 15 rfl he10 hm9 5 agg56.sz (0) (.agg (#[zI qa, zI qb, zI qc, zI qd])) (#[zI qa, zI qb, zI qc, zI qd]) ⟨rfl, rfl, rfl, trivial⟩ (hin := (by simp)) (hA := (by kernel_rfl)) fun w10 hm10 => ?_
      refine wtb (fuel := 0) [16] he10 hm10 [(10, .bool (ok))] fun a11 he11 => ?_
      refine wpAnyH_done (by kernel_rfl) ?_ _
      exact ⟨b4, b5, he11.sb, hm10.sb⟩
    case st1e_39_1 =>
     refine sa he7 hm6 ⟨rfl, rfl, rfl, trivial⟩ 4 56 (.agg #[.int .i64 0, .int .i64 0, .int .i64 0, .int .i64 0]) (#[zI 0, zI 0, zI 0, zI 0]) (fun _ => ⟨rfl, rfl, rfl, trivial⟩) fun a8 w7 b4 he8 hm7 => ?_
     refine up1 (fuel := 7) 7 rfl ?st1e_48_0
     case st1e_48_0 =>
      refine sc he8 hm7 (v := .tuple #[.agg (#[zI pa, zI pb, zI pc, zI pd]), .agg (#[zI qa, zI qb, zI qc, zI qd]), .bool (ok)]) (HB _) fun a9 w8 he9 hm8 => ?_
      refine wtb (fuel := 3) [8, 9, 10, 11] he9 hm8 [(22, .bool (ok)), (21, .agg (#[zI qa, zI qb, zI qc, zI qd])), (20, .agg (#[zI pa, zI pb, zI pc, zI pd])), (11, .tuple #[.agg (#[zI pa, zI pb, zI pc, zI pd]), .agg (#[zI qa, zI qb, zI qc, zI qd]), .bool (ok)])] fun a10 he10 => ?_
      refine ts (fuel := 2) 14 rfl he10 hm8 4 agg56.sz (0) (.agg (#[zI pa, zI pb, zI pc, zI pd])) (#[zI pa, zI pb, zI pc, zI pd]) ⟨rfl, rfl, rfl, trivial⟩ (hin := (by simp)) (hA := (by kernel_rfl)) fun w9 hm9 => ?_
      refine ts (fuel := 1) 15 rfl he10 hm9 5 agg56.sz (0) (.agg (#[zI qa, zI qb, zI qc, zI qd])) (#[zI qa, zI qb, zI qc, zI qd]) ⟨rfl, rfl, rfl, trivial⟩ (hin := (by simp)) (hA := (by kernel_rfl)) fun w10 hm10 => ?_
      refine wtb (fuel := 0) [16] he10 hm10 [(10, .bool (ok))] fun a11 he11 => ?_
      refine wpAnyH_done (by kernel_rfl) ?_ _
      exact ⟨b4, b5, he11.sb, hm10.sb⟩
  case st1e_7_1 =>
   refine sa he5 hm4 ⟨rfl, rfl, rfl, trivial⟩ 4 56 (.agg #[.int .i64 0, .int .i64 0, .int .i64 0, .int .i64 0]) (#[zI 0, zI 0, zI 0, zI 0]) (fun _ => ⟨rfl, rfl, rfl, trivial⟩) fun a6 w5 b4 he6 hm5 => ?_
   refine up2 (fuel := 9) 5 13 rfl rfl ?st1e_56_0 ?st1e_56_1
   case st1e_56_0 =>
    refine sc he6 hm5 (v := .agg (#[zI ((r).num), zI ((r).num), zI ((r).num), zI 0])) (c_one _ _) fun a7 w6 he7 hm6 => ?_
    refine up2 (fuel := 8) 7 13 rfl rfl ?st1e_57_0 ?st1e_57_1
    case st1e_57_0 =>
     refine sc he7 hm6 (v := .tuple #[.agg (#[zI pa, zI pb, zI pc, zI pd]), .agg (#[zI qa, zI qb, zI qc, zI qd]), .bool (ok)]) (HB _) fun a8 w7 he8 hm7 => ?_
     refine wtb (fuel := 4) [8, 9, 10, 11] he8 hm7 [(22, .bool (ok)), (21, .agg (#[zI qa, zI qb, zI qc, zI qd])), (20, .agg (#[zI pa, zI pb, zI pc, zI pd])), (11, .tuple #[.agg (#[zI pa, zI pb, zI pc, zI pd]), .agg (#[zI qa, zI qb, zI qc, zI qd]), .bool (ok)])] fun a9 he9 => ?_
     refine up1 (fuel := 3) 13 rfl ?st1e_62_0
     case st1e_62_0 =>
      refine sa he9 hm7 ⟨rfl, rfl, rfl, trivial⟩ 5 56 (.agg #[.int .i64 0, .int .i64 0, .int .i64 0, .int .i64 0]) (#[zI 0, zI 0, zI 0, zI 0]) (fun _ => ⟨rfl, rfl, rfl, trivial⟩) fun a10 w8 b5 he10 hm8 => ?_
      refine ts (fuel := 2) 14 rfl he10 hm8 4 agg56.sz (0) (.agg (#[zI pa, zI pb, zI pc, zI pd])) (#[zI pa, zI pb, zI pc, zI pd]) ⟨rfl, rfl, rfl, trivial⟩ (hin := (by simp)) (hA := (by kernel_rfl)) fun w9 hm9 => ?_
      refine ts (fuel := 1) 15 rfl he10 hm9 5 agg56.sz (0) (.agg (#[zI qa, zI qb, zI qc, zI qd])) (#[zI qa, zI qb, zI qc, zI qd]) ⟨rfl, rfl, rfl, trivial⟩ (hin := (by simp)) (hA := (by kernel_rfl)) fun w10 hm10 => ?_
      refine wtb (fuel := 0) [16] he10 hm10 [(10, .bool (ok))] fun a11 he11 => ?_
      refine wpAnyH_done (by kernel_rfl) ?_ _
      exact ⟨b4, b5, he11.sb, hm10.sb⟩
    case st1e_57_1 =>
     refine sa he7 hm6 ⟨rfl, rfl, rfl, trivial⟩ 5 56 (.agg #[.int .i64 0, .int .i64 0, .int .i64 0, .int .i64 0]) (#[zI 0, zI 0, zI 0, zI 0]) (fun _ => ⟨rfl, rfl, rfl, trivial⟩) fun a8 w7 b5 he8 hm7 => ?_
     refine up1 (fuel := 7) 7 rfl ?st1e_66_0
     case st1e_66_0 =>
      refine sc he8 hm7 (v := .tuple #[.agg (#[zI pa, zI pb, zI pc, zI pd]), .agg (#[zI qa, zI qb, zI qc, zI qd]), .bool (ok)]) (HB _) fun a9 w8 he9 hm8 => ?_
      refine wtb (fuel := 3) [8, 9, 10, 11] he9 hm8 [(22, .bool (ok)), (21, .agg (#[zI qa, zI qb, zI qc, zI qd])), (20, .agg (#[zI pa, zI pb, zI pc, zI pd])), (11, .tuple #[.agg (#[zI pa, zI pb, zI pc, zI pd]), .agg (#[zI qa, zI qb, zI qc, zI qd]), .bool (ok)])] fun a10 he10 => ?_
      refine ts (fuel := 2) 14 rfl he10 hm8 4 agg56.sz (0) (.agg (#[zI pa, zI pb, zI pc, zI pd])) (#[zI pa, zI pb, zI pc, zI pd]) ⟨rfl, rfl, rfl, trivial⟩ (hin := (by simp)) (hA := (by kernel_rfl)) fun w9 hm9 => ?_
      refine ts (fuel := 1) 15 rfl he10 hm9 5 agg56.sz (0) (.agg (#[zI qa, zI qb, zI qc, zI qd])) (#[zI qa, zI qb, zI qc, zI qd]) ⟨rfl, rfl, rfl, trivial⟩ (hin := (by simp)) (hA := (by kernel_rfl)) fun w10 hm10 => ?_
      refine wtb (fuel := 0) [16] he10 hm10 [(10, .bool (ok))] fun a11 he11 => ?_
      refine wpAnyH_done (by kernel_rfl) ?_ _
      exact ⟨b4, b5, he11.sb, hm10.sb⟩
   case st1e_56_1 =>
    refine sa he6 hm5 ⟨rfl, rfl, rfl, trivial⟩ 5 56 (.agg #[.int .i64 0, .int .i64 0, .int .i64 0, .int .i64 0]) (#[zI 0, zI 0, zI 0, zI 0]) (fun _ => ⟨rfl, rfl, rfl, trivial⟩) fun a7 w6 b5 he7 hm6 => ?_
    refine up1 (fuel := 8) 5 rfl ?st1e_74_0
    case st1e_74_0 =>
     refine sc he7 hm6 (v := .agg (#[zI ((r).num), zI ((r).num), zI ((r).num), zI 0])) (c_one _ _) fun a8 w7 he8 hm7 => ?_
     refine up1 (fuel := 7) 7 rfl ?st1e_75_0
     case st1e_75_0 =>
      refine sc he8 hm7 (v := .tuple #[.agg (#[zI pa, zI pb, zI pc, zI pd]), .agg (#[zI qa, zI qb, zI qc, zI qd]), .bool (ok)]) (HB _) fun a9 w8 he9 hm8 => ?_
      refine wtb (fuel := 3) [8, 9, 10, 11] he9 hm8 [(22, .bool (ok)), (21, .agg (#[zI qa, zI qb, zI qc, zI qd])), (20, .agg (#[zI pa, zI pb, zI pc, zI pd])), (11, .tuple #[.agg (#[zI pa, zI pb, zI pc, zI pd]), .agg (#[zI qa, zI qb, zI qc, zI qd]), .bool (ok)])] fun a10 he10 => ?_
      refine ts (fuel := 2) 14 rfl he10 hm8 4 agg56.sz (0) (.agg (#[zI pa, zI pb, zI pc, zI pd])) (#[zI pa, zI pb, zI pc, zI pd]) ⟨rfl, rfl, rfl, trivial⟩ (hin := (by simp)) (hA := (by kernel_rfl)) fun w9 hm9 => ?_
      refine ts (fuel := 1) 15 rfl he10 hm9 5 agg56.sz (0) (.agg (#[zI qa, zI qb, zI qc, zI qd])) (#[zI qa, zI qb, zI qc, zI qd]) ⟨rfl, rfl, rfl, trivial⟩ (hin := (by simp)) (hA := (by kernel_rfl)) fun w10 hm10 => ?_
      refine wtb (fuel := 0) [16] he10 hm10 [(10, .bool (ok))] fun a11 he11 => ?_
      refine wpAnyH_done (by kernel_rfl) ?_ _
      exact ⟨b4, b5, he11.sb, hm10.sb⟩
  case st1e_7_2 =>
   refine sa he5 hm4 ⟨rfl, rfl, rfl, trivial⟩ 5 56 (.agg #[.int .i64 0, .int .i64 0, .int .i64 0, .int .i64 0]) (#[zI 0, zI 0, zI 0, zI 0]) (fun _ => ⟨rfl, rfl, rfl, trivial⟩) fun a6 w5 b5 he6 hm5 => ?_
   refine up2 (fuel := 9) 5 12 rfl rfl ?st1e_83_0 ?st1e_83_1
   case st1e_83_0 =>
    refine sc he6 hm5 (v := .agg (#[zI ((r).num), zI ((r).num), zI ((r).num), zI 0])) (c_one _ _) fun a7 w6 he7 hm6 => ?_
    refine up2 (fuel := 8) 7 12 rfl rfl ?st1e_84_0 ?st1e_84_1
    case st1e_84_0 =>
     refine sc he7 hm6 (v := .tuple #[.agg (#[zI pa, zI pb, zI pc, zI pd]), .agg (#[zI qa, zI qb, zI qc, zI qd]), .bool (ok)]) (HB _) fun a8 w7 he8 hm7 => ?_
     refine wtb (fuel := 4) [8, 9, 10, 11] he8 hm7 [(22, .bool (ok)), (21, .agg (#[zI qa, zI qb, zI qc, zI qd])), (20, .agg (#[zI pa, zI pb, zI pc, zI pd])), (11, .tuple #[.agg (#[zI pa, zI pb, zI pc, zI pd]), .agg (#[zI qa, zI qb, zI qc, zI qd]), .bool (ok)])] fun a9 he9 => ?_
     refine up1 (fuel := 3) 12 rfl ?st1e_89_0
     case st1e_89_0 =>
      refine sa he9 hm7 ⟨rfl, rfl, rfl, trivial⟩ 4 56 (.agg #[.int .i64 0, .int .i64 0, .int .i64 0, .int .i64 0]) (#[zI 0, zI 0, zI 0, zI 0]) (fun _ => ⟨rfl, rfl, rfl, trivial⟩) fun a10 w8 b4 he10 hm8 => ?_
      refine ts (fuel := 2) 14 rfl he10 hm8 4 agg56.sz (0) (.agg (#[zI pa, zI pb, zI pc, zI pd])) (#[zI pa, zI pb, zI pc, zI pd]) ⟨rfl, rfl, rfl, trivial⟩ (hin := (by simp)) (hA := (by kernel_rfl)) fun w9 hm9 => ?_
      refine ts (fuel := 1) 15 rfl he10 hm9 5 agg56.sz (0) (.agg (#[zI qa, zI qb, zI qc, zI qd])) (#[zI qa, zI qb, zI qc, zI qd]) ⟨rfl, rfl, rfl, trivial⟩ (hin := (by simp)) (hA := (by kernel_rfl)) fun w10 hm10 => ?_
      refine wtb (fuel := 0) [16] he10 hm10 [(10, .bool (ok))] fun a11 he11 => ?_
      refine wpAnyH_done (by kernel_rfl) ?_ _
      exact ⟨b4, b5, he11.sb, hm10.sb⟩
    case st1e_84_1 =>
     refine sa he7 hm6 ⟨rfl, rfl, rfl, trivial⟩ 4 56 (.agg #[.int .i64 0, .int .i64 0, .int .i64 0, .int .i64 0]) (#[zI 0, zI 0, zI 0, zI 0]) (fun _ => ⟨rfl, rfl, rfl, trivial⟩) fun a8 w7 b4 he8 hm7 => ?_
     refine up1 (fuel := 7) 7 rfl ?st1e_93_0
     case st1e_93_0 =>
      refine sc he8 hm7 (v := .tuple #[.agg (#[zI pa, zI pb, zI pc, zI pd]), .agg (#[zI qa, zI qb, zI qc, zI qd]), .bool (ok)]) (HB _) fun a9 w8 he9 hm8 => ?_
      refine wtb (fuel := 3) [8, 9, 10, 11] he9 hm8 [(22, .bool (ok)), (21, .agg (#[zI qa, zI qb, zI qc, zI qd])), (20, .agg (#[zI pa, zI pb, zI pc, zI pd])), (11, .tuple #[.agg (#[zI pa, zI pb, zI pc, zI pd]), .agg (#[zI qa, zI qb, zI qc, zI qd]), .bool (ok)])] fun a10 he10 => ?_
      refine ts (fuel := 2) 14 rfl he10 hm8 4 agg56.sz (0) (.agg (#[zI pa, zI pb, zI pc, zI pd])) (#[zI pa, zI pb, zI pc, zI pd]) ⟨rfl, rfl, rfl, trivial⟩ (hin := (by simp)) (hA := (by kernel_rfl)) fun w9 hm9 => ?_
      refine ts (fuel := 1) 15 rfl he10 hm9 5 agg56.sz (0) (.agg (#[zI qa, zI qb, zI qc, zI qd])) (#[zI qa, zI qb, zI qc, zI qd]) ⟨rfl, rfl, rfl, trivial⟩ (hin := (by simp)) (hA := (by kernel_rfl)) fun w10 hm10 => ?_
      refine wtb (fuel := 0) [16] he10 hm10 [(10, .bool (ok))] fun a11 he11 => ?_
      refine wpAnyH_done (by kernel_rfl) ?_ _
      exact ⟨b4, b5, he11.sb, hm10.sb⟩
   case st1e_83_1 =>
    refine sa he6 hm5 ⟨rfl, rfl, rfl, trivial⟩ 4 56 (.agg #[.int .i64 0, .int .i64 0, .int .i64 0, .int .i64 0]) (#[zI 0, zI 0, zI 0, zI 0]) (fun _ => ⟨rfl, rfl, rfl, trivial⟩) fun a7 w6 b4 he7 hm6 => ?_
    refine up1 (fuel := 8) 5 rfl ?st1e_101_0
    case st1e_101_0 =>
     refine sc he7 hm6 (v := .agg (#[zI ((r).num), zI ((r).num), zI ((r).num), zI 0])) (c_one _ _) fun a8 w7 he8 hm7 => ?_
     refine up1 (fuel := 7) 7 rfl ?st1e_102_0
     case st1e_102_0 =>
      refine sc he8 hm7 (v := .tuple #[.agg (#[zI pa, zI pb, zI pc, zI pd]), .agg (#[zI qa, zI qb, zI qc, zI qd]), .bool (ok)]) (HB _) fun a9 w8 he9 hm8 => ?_
      refine wtb (fuel := 3) [8, 9, 10, 11] he9 hm8 [(22, .bool (ok)), (21, .agg (#[zI qa, zI qb, zI qc, zI qd])), (20, .agg (#[zI pa, zI pb, zI pc, zI pd])), (11, .tuple #[.agg (#[zI pa, zI pb, zI pc, zI pd]), .agg (#[zI qa, zI qb, zI qc, zI qd]), .bool (ok)])] fun a10 he10 => ?_
      refine ts (fuel := 2) 14 rfl he10 hm8 4 agg56.sz (0) (.agg (#[zI pa, zI pb, zI pc, zI pd])) (#[zI pa, zI pb, zI pc, zI pd]) ⟨rfl, rfl, rfl, trivial⟩ (hin := (by simp)) (hA := (by kernel_rfl)) fun w9 hm9 => ?_
      refine ts (fuel := 1) 15 rfl he10 hm9 5 agg56.sz (0) (.agg (#[zI qa, zI qb, zI qc, zI qd])) (#[zI qa, zI qb, zI qc, zI qd]) ⟨rfl, rfl, rfl, trivial⟩ (hin := (by simp)) (hA := (by kernel_rfl)) fun w10 hm10 => ?_
      refine wtb (fuel := 0) [16] he10 hm10 [(10, .bool (ok))] fun a11 he11 => ?_
      refine wpAnyH_done (by kernel_rfl) ?_ _
      exact ⟨b4, b5, he11.sb, hm10.sb⟩
 rintro a12 w12 ⟨b4, b5, he12, hm12⟩
 refine then_normal (wp_seqR ?_)
 refine wm [6, 0, 5, 0] he12 hm12 [(7, .bool (ok)), (24, .bool (ok)), (23, .agg (#[zI pa, zI pb, zI pc, zI pd]))] [(3, zE b3 56 (#[zI pa, zI pb, zI pc, zI pd]))] [b3, b4] vl0 fun a13 w13 he13 hm13 => ?_
 refine wl_end (wp_ret ?_)
 exact bodyPost_ret (results_cell_t he13 hm13 _ _ _ Try.results26 _ rfl 3 rfl 4 agg56 (by first | rfl | assumption) _ rfl) he13.defers ⟨rfl, hm13.below⟩
end Go.Proofs.Ytkaekiodjjhjkaa.W
namespace Go.Proofs.Ytkaekiodjjhjkaa.W
open Go.ChangeShapes Go.WideShapes Go.ChangeAt Go.RowKit Go.Deep
theorem own : ownKnob Try.prog.godebug = none := by kernel_rfl
theorem laidOut : laidOutB Try.prog = true := by kernel_rfl
end Go.Proofs.Ytkaekiodjjhjkaa.W
namespace Go.Proofs.Ytkaekiodjjhjkaa.W
open Go.RowKit
end Go.Proofs.Ytkaekiodjjhjkaa.W
namespace Go.Proofs.Ytkaekiodjjhjkaa.W
open Go.RowKit
theorem neqRu (r : Ru) (w : World) : (binOp .neq 30 (.agg r.arr) (.agg r.arr)).run Try.prog w = .ok (.bool false) w := by
 obtain ⟨a, b, c, d, e⟩ := r
 show (binOp .neq 30 (.agg #[.int .i64 a, .int .i64 b, .int .i64 c, .int .i64 d, .int .i64 e]) (.agg #[.int .i64 a, .int .i64 b, .int .i64 c, .int .i64 d, .int .i64 e])).run Try.prog w = _
 go_simp
theorem gdRu (x y : Operand) (a b : Array Value) (w : World) : (eqGuard .neq 30 x y (.agg a) (.agg b)).run Try.prog w = .ok () w := run_eqGuard_agg w .neq _ x y a b Try.eqGuardType30
theorem c_sg (f : Nat → Ru) (b p n c b2 p2 c2 : Nat) (w : World) (hR : RowAt w b p n 5 fun i => (f i).arr) (hQ : RowAt w b2 p2 n 5 fun i => (f i).arr) (hn : n ≤ 1048576) :
 Calls Try.prog 11 #[.slice (some ⟨b, p, none⟩) (n) (c), .slice (some ⟨b2, p2, none⟩) (n) (c2)] w fun e w' => e = .returned (.bool true) ∧ Below w.heap.size w w' := by
 refine calls_begin Try.func11 rfl 26 rfl (Nat.le_of_ble_eq_true rfl) [(0, .slice (some ⟨b, p, none⟩) (n) (c)), (1, .slice (some ⟨b2, p2, none⟩) (n) (c2))] ⟨rfl, rfl, trivial⟩ (fun a0 he0 hm0 => ?_)
 have hnn : (((n : Nat) : Int) != ((n : Nat) : Int)) = false := by simp
 refine wp_seqR ?_
 refine wb 1 he0 [(4, zF)] fun a1 he1 => ?_
 refine wl_end (wp_seq (wp_seqR ?_))
 refine wb 1 he1 [(6, .slice (some ⟨b, p, none⟩) (n) (c))] fun a2 he2 => ?_
 refine kv he2 (zN n) (rn_builtin _ _ _ rfl #[.slice (some ⟨b, p, none⟩) (n) (c)] (map1 (he2.tmp 6 _ rfl)) (.int .i64 (((n : Nat) : Int))) (by kernel_rfl)) fun a3 he3 => ?_
 refine wb 1 he3 [(8, .slice (some ⟨b2, p2, none⟩) (n) (c2))] fun a4 he4 => ?_
 refine kv he4 (zN n) (rn_builtin _ _ _ rfl #[.slice (some ⟨b2, p2, none⟩) (n) (c2)] (map1 (he4.tmp 8 _ rfl)) (.int .i64 (((n : Nat) : Int))) (by kernel_rfl)) fun a5 he5 => ?_
 refine wr [1] he5 hm0 [(10, zF)] [] (vb (hnn) vl0) fun a6 w1 he6 hm1 => ?_
 refine wl_end (wp_condF (he := he6) rfl (wp_skip (then_normal (wp_seq (wp_seqR ?_)))))
 refine wb 1 he6 [(5, zI 0)] fun a7 he7 => ?_
 refine wl_end (wp_block ?_)
 refine wp_loopN (fun mz az wz => ∃ (i : Nat), mz = n - (i) ∧ (i ≤ n) ∧ EV az 26 [] [(0, .slice (some ⟨b, p, none⟩) (n) (c)), (1, .slice (some ⟨b2, p2, none⟩) (n) (c2)), (6, .slice (some ⟨b, p, none⟩) (n) (c)), (7, .int .i64 (((n : Nat) : Int))), (8, .slice (some ⟨b2, p2, none⟩) (n) (c2)), (9, .int .i64 (((n : Nat) : Int))), (10, .bool false), (5, .int .i64 (((i : Nat) : Int)))] ∧ MM [] w wz []) ⟨_, 0, rfl, (Nat.zero_le _), he7.sb, hm1.sub _ trivial⟩ ?_
 rintro mz1 a8 w2 ⟨i, rfl, hrel1, he8, hm2⟩
 refine wp_seq (wp_seqR ?_)
 refine wb 2 he8 [(12, .slice (some ⟨b, p, none⟩) (n) (c)), (11, zN i)] fun a9 he9 => ?_
 refine kv he9 (zN n) (rn_builtin _ _ _ rfl #[.slice (some ⟨b, p, none⟩) (n) (c)] (map1 (he9.tmp 12 _ rfl)) (.int .i64 (((n : Nat) : Int))) (by kernel_rfl)) fun a10 he10 => ?_
 cases hd1 : (decide (((i : Nat) : Int) < ((n : Nat) : Int)))
 ·
  have hd1p := of_decide_eq_false hd1
  refine wr [1] he10 hm2 [(14, zF)] [] (vb (hd1) vl0) fun a11 w3 he11 hm3 => ?_
  refine wl_end (wp_condF (he := he11) rfl (wp_exit (exit_then (exit_then (exit_here (then_normal (wp_seqR ?_)))))))
  refine wb 1 he11 [(4, zT)] fun a12 he12 => ?_
  refine wl_end (wp_ret ?_)
  exact bodyPost_ret (results_tmp he12 _ Try.results11 (.bool true) rfl) he12.defers ⟨rfl, hm3.below⟩
 ·
  have hd1p := of_decide_eq_true hd1
  refine wr [1] he10 hm2 [(14, zT)] [] (vb (hd1) vl0) fun a11 w3 he11 hm3 => ?_
  refine wl_end (wp_condT (he := he11) rfl (wp_skip (then_normal (wp_seq (wp_block (wp_seq ?_))))))
  refine wh_begin (by kernel_rfl) hm3 [] trivial (fun w4 hm4 => ?_)
  refine wtb (fuel := 7) [0, 1] he11 hm4 [(18, zN i), (17, .slice (some ⟨b, p, none⟩) (n) (c))] fun a12 he12 => ?_
  refine tv (fuel := 6) 2 rfl he12 hm4 (.pointer (some ⟨b, p + i * 5, none⟩)) (fun wS hmS => rn_indexA _ _ _ rfl _ _ (.pointer (some ⟨b, p + i * 5, none⟩)) (he12.tmp 17 _ rfl) (he12.tmp 18 _ rfl) (ixS 30 5 (by kernel_rfl) (fun w => by kernel_rfl) (b) (p) (n) (c) (i) (by omega) _)) fun a13 he13 => ?_
  refine tv (fuel := 5) 3 rfl he13 hm4 (.agg (Ru.arr (f i))) (fun wS hmS => rn_rowA hmS hR (by simp) (i) (by omega) _ _ rfl (he13.tmp 19 _ rfl) agg30 (by kernel_rfl)) fun a14 he14 => ?_
  refine wtb (fuel := 3) [4, 5] he14 hm4 [(22, zN i), (21, .slice (some ⟨b2, p2, none⟩) (n) (c2))] fun a15 he15 => ?_
  refine tv (fuel := 2) 6 rfl he15 hm4 (.pointer (some ⟨b2, p2 + i * 5, none⟩)) (fun wS hmS => rn_indexA _ _ _ rfl _ _ (.pointer (some ⟨b2, p2 + i * 5, none⟩)) (he15.tmp 21 _ rfl) (he15.tmp 22 _ rfl) (ixS 30 5 (by kernel_rfl) (fun w => by kernel_rfl) (b2) (p2) (n) (c2) (i) (by omega) _)) fun a16 he16 => ?_
  refine tv (fuel := 1) 7 rfl he16 hm4 (.agg (Ru.arr (f i))) (fun wS hmS => rn_rowA hmS hQ (by simp) (i) (by omega) _ _ rfl (he16.tmp 23 _ rfl) agg30 (by kernel_rfl)) fun a17 he17 => ?_
  refine tv (fuel := 0) 8 rfl he17 hm4 (zF) (fun wS hmS => rn_binG _ _ _ _ _ rfl _ _ (he17.tmp 20 _ rfl) (he17.tmp 24 _ rfl) _ (gdRu _ _ _ _ _) (neqRu (f i) _)) fun a18 he18 => ?_
  refine wpAnyH_done (by kernel_rfl) ?_ _
  refine then_normal (wp_condF (he := he18) rfl (wp_skip (in_normal (then_normal (wp_region_lit ?_)))))
  refine wr [0, 1, 0] he18 hm4 [(5, zN (i + 1)), (16, zN (i + 1)), (15, zN i)] [] (vn i 1 vl0) fun a19 w5 he19 hm5 => ?_
  refine wpList_nil ?_
  exact ⟨n - (i + 1), by omega, i + 1, rfl, (by omega), he19.sb, hm5.sub _ trivial⟩
theorem c_sg0 (a aq : Option Addr) (c cq : Nat) (w : World)  :
 Calls Try.prog 11 #[.slice (a) (0) (c), .slice (aq) (0) (cq)] w fun e w' => e = .returned (.bool true) ∧ Below w.heap.size w w' := by
 refine calls_begin Try.func11 rfl 26 rfl (Nat.le_of_ble_eq_true rfl) [(0, .slice (a) (0) (c)), (1, .slice (aq) (0) (cq))] ⟨rfl, rfl, trivial⟩ (fun a0 he0 hm0 => ?_)
 have hnn : ((0 : Int) != 0) = false := rfl
 refine wp_seqR ?_
 refine wb 1 he0 [(4, zF)] fun a1 he1 => ?_
 refine wl_end (wp_seq (wp_seqR ?_))
 refine wb 1 he1 [(6, .slice (a) (0) (c))] fun a2 he2 => ?_
 refine kv he2 (zI 0) (rn_builtin _ _ _ rfl #[.slice (a) (0) (c)] (map1 (he2.tmp 6 _ rfl)) (.int .i64 (0)) (by kernel_rfl)) fun a3 he3 => ?_
 refine wb 1 he3 [(8, .slice (aq) (0) (cq))] fun a4 he4 => ?_
 refine kv he4 (zI 0) (rn_builtin _ _ _ rfl #[.slice (aq) (0) (cq)] (map1 (he4.tmp 8 _ rfl)) (.int .i64 (0)) (by kernel_rfl)) fun a5 he5 => ?_
 refine wr [1] he5 hm0 [(10, zF)] [] (vlc (u := .bool ((0 != 0))) (v := .bool false) rfl vl0) fun a6 w1 he6 hm1 => ?_
 refine wl_end (wp_condF (he := he6) rfl (wp_skip (then_normal (wp_seq (wp_seqR ?_)))))
 refine wb 1 he6 [(5, zI 0)] fun a7 he7 => ?_
 refine wl_end (wp_block ?_)
 refine wp_loop_rounds 1 ?_
 rw [rounds_succ]
 refine wp_seq (wp_seqR ?_)
 refine wb 2 he7 [(12, .slice (a) (0) (c)), (11, zI 0)] fun a8 he8 => ?_
 refine kv he8 (zI 0) (rn_builtin _ _ _ rfl #[.slice (a) (0) (c)] (map1 (he8.tmp 12 _ rfl)) (.int .i64 (0)) (by kernel_rfl)) fun a9 he9 => ?_
 refine wr [1] he9 hm1 [(14, zF)] [] (vlc (u := .bool (decide (0 < 0))) (v := .bool false) rfl vl0) fun a10 w2 he10 hm2 => ?_
 refine wl_end (wp_condF (he := he10) rfl (wp_exit (exit_then (exit_then (exit_here (then_normal (wp_seqR ?_)))))))
 refine wb 1 he10 [(4, zT)] fun a11 he11 => ?_
 refine wl_end (wp_ret ?_)
 exact bodyPost_ret (results_tmp he11 _ Try.results11 (.bool true) rfl) he11.defers ⟨rfl, hm2.below⟩
end Go.Proofs.Ytkaekiodjjhjkaa.W
