/- Steps of a region that draws its order: what only reads is taken first; then one comes up after the other. -/
import Derived.Test.YtkaekiodjjhjkaaDoorSY
import Derived.Deep.RegionHeld
namespace Go.Proofs.YtkaekiodjjhjkaaDoor
open Go.RowKit
set_option linter.unusedVariables false
set_option linter.unusedSimpArgs false

def SubL (L : List (Nat × Ent)) : List (Nat × Ent) → Prop
  | [] => True
  | (k, e) :: r => L.lookup k = some e ∧ SubL L r
theorem SubL.sub {L : List (Nat × Ent)} : ∀ {L' : List (Nat × Ent)}, SubL L L' → ∀ k e, L'.lookup k = some e → L.lookup k = some e
  | [], _, k, e, h => by simp at h
  | (j, f) :: r, hs, k, e, h => by
    rw [lk] at h
    split at h
    · rename_i hk; subst hk; cases h; exact hs.1
    · exact SubL.sub hs.2 k e h
theorem MM.sub {S : List Nat} {w0 w : World} {L : List (Nat × Ent)} (h : MM S w0 w L) (L' : List (Nat × Ent)) (hs : SubL L L') : MM S w0 w L' :=
  ⟨h.keep, fun k e hk => h.has k e (hs.sub k e hk), fun k e hk => h.own k e (hs.sub k e hk), fun j k e f hj hk => h.apart j k e f (hs.sub j e hj) (hs.sub k f hk)⟩
theorem MM.drew {S : List Nat} {w0 w : World} {L : List (Nat × Ent)} (h : MM S w0 w L) : MM S w0 w.drew L :=
  ⟨⟨h.keep.os, h.keep.tape, h.keep.output, h.keep.size, h.keep.block⟩, h.has, h.own, h.apart⟩

section
variable {P : Program} {ops : Array Oper} {Q : Exit → Act → World → Prop} {SS : World → Prop} {a : Act} {w w0 : World} {S : List Nat} {L Ls : List (Nat × Ent)}
  {n : Nat} {d : List Deferred} {env : List (Nat × Value)} {fuel : Nat} {listed : Array Bool}
theorem wh_begin {id : Nat} (hx : P.follows .mixedOrders = true) (hm : MM S w0 w L) (Ls : List (Nat × Ent)) (hs : SubL L Ls)
    (k : ∀ w', MM S w0 w' L → wpAnyH P .any ops Q (fun w' => MM S w0 w' Ls) ops.size (Array.replicate ops.size false) a w') : (Code.region id ops true).wp P Q a w :=
  wp_region_held_drew (S := fun w' => MM S w0 w' Ls) hx (hm.drew.sub Ls hs) fun _ => k _ hm.drew
theorem wh_take {i : Nat} {op : Oper} (hi : ops[i]? = some op) (hs : Region.noSelect ops = true) (hf : Region.free .any ops listed i = true) (hr : (Region.ready .any ops listed).contains i = true)
    (hQ : ∀ c a w, Q (.panic c) (a.put op.dst undef) w → Q (.panic c) a w) (hQ2 : ∀ v c a w, Q (.panic c) (a.put op.dst v) w → Q (.panic c) a w) (he : EV a n d env) (hm : MM S w0 w L) (hS : SubL L Ls) (hd : op.dst.all (· < n) = true) (hw : Region.wanted op (yielded ops a.tmps) = true) (v : Value)
    (hy : ∀ w', MM S w0 w' Ls → (execOp a.eval op).run P w' = .ok (.value v) w')
    (k : ∀ a', EV a' n d (putE env op.dst v) → wpAnyH P .any ops Q (fun w' => MM S w0 w' Ls) fuel (listed.setIfInBounds i true) a' w) : wpAnyH P .any ops Q (fun w' => MM S w0 w' Ls) (fuel + 1) listed a w :=
  wpAnyH_take hi hs hf hr (hQ2 v) (Or.inl ⟨hw, hy⟩) (hm.sub Ls hS) (k _ (he.putO _ _ hd))
theorem wh_takeN {i : Nat} {op : Oper} (hi : ops[i]? = some op) (hs : Region.noSelect ops = true) (hf : Region.free .any ops listed i = true) (hr : (Region.ready .any ops listed).contains i = true)
    (hQ2 : ∀ v c a w, Q (.panic c) (a.put op.dst v) w → Q (.panic c) a w) (he : EV a n d env) (hm : MM S w0 w L) (hS : SubL L Ls) (hd : op.dst.all (· < n) = true) (hw : Region.wanted op (yielded ops a.tmps) = false)
    (k : ∀ a', EV a' n d (putE env op.dst undef) → wpAnyH P .any ops Q (fun w' => MM S w0 w' Ls) fuel (listed.setIfInBounds i true) a' w) : wpAnyH P .any ops Q (fun w' => MM S w0 w' Ls) (fuel + 1) listed a w :=
  wpAnyH_take hi hs hf hr (hQ2 undef) (Or.inr ⟨hw, rfl⟩) (hm.sub Ls hS) (k _ (he.putO _ _ hd))
theorem tk (op : Oper) {i : Nat} (he : EV a n d env) (hm : MM S w0 w L) (hS : SubL L Ls) (v : Value) (hi : ops[i]? = some op) (hc : Region.noSelect ops = true ∧ Region.free .any ops listed i = true ∧ (Region.ready .any ops listed).contains i = true)
    (hq : (∀ v c a w, Q (.panic c) (a.put op.dst v) w → Q (.panic c) a w) ∧ op.dst.all (· < n) = true ∧ Region.wanted op (yielded ops a.tmps) = true)
    (hy : ∀ w', MM S w0 w' Ls → (execOp a.eval op).run P w' = .ok (.value v) w')
    (k : ∀ a', EV a' n d (putE env op.dst v) → wpAnyH P .any ops Q (fun w' => MM S w0 w' Ls) fuel (listed.setIfInBounds i true) a' w) : wpAnyH P .any ops Q (fun w' => MM S w0 w' Ls) (fuel + 1) listed a w :=
  wh_take hi hc.1 hc.2.1 hc.2.2 (fun c a w => hq.1 undef c a w) hq.1 he hm hS hq.2.1 hq.2.2 v hy k
theorem tkN (op : Oper) {i : Nat} (he : EV a n d env) (hm : MM S w0 w L) (hS : SubL L Ls) (hi : ops[i]? = some op) (hc : Region.noSelect ops = true ∧ Region.free .any ops listed i = true ∧ (Region.ready .any ops listed).contains i = true)
    (hq : (∀ v c a w, Q (.panic c) (a.put op.dst v) w → Q (.panic c) a w) ∧ op.dst.all (· < n) = true ∧ Region.wanted op (yielded ops a.tmps) = false)
    (k : ∀ a', EV a' n d (putE env op.dst undef) → wpAnyH P .any ops Q (fun w' => MM S w0 w' Ls) fuel (listed.setIfInBounds i true) a' w) : wpAnyH P .any ops Q (fun w' => MM S w0 w' Ls) (fuel + 1) listed a w :=
  wh_takeN hi hc.1 hc.2.1 hc.2.2 hq.1 he hm hS hq.2.1 hq.2.2 k
/-- The one that comes up, carried out. -/
theorem wh_one {i : Nat} {op : Oper} (hr : Region.ready .any ops listed = [i]) (hi : ops[i]? = some op) (hw : Region.wanted op (yielded ops a.tmps) = true)
    (h : ∀ K : Act → World → Prop, (∀ a w, SS w → wpAnyH P .any ops Q SS fuel (listed.setIfInBounds i true) a w → K a w) → op.wp P a w K Q) : wpAnyH P .any ops Q SS (fuel + 1) listed a w := by
  refine wpAnyH_ready (rs := [i]) hr (by simp) (AllReadyH.cons hi (fun K hK => ?_) AllReadyH.nil)
  rw [if_pos hw]
  exact h K fun a w hS hq => hK.out a w hS fun _ => hq
theorem wh_call {i : Nat} {op : Oper} (hr : Region.ready .any ops listed = [i]) (hi : ops[i]? = some op) (he : EV a n d env) (hm : MM S w0 w L) (hS : SubL L Ls) (hd : op.dst.all (· < n) = true) (hw : Region.wanted op (yielded ops a.tmps) = true)
    (f : FuncId) (args : Array Value) (hrun : (execOp a.eval op).run P w = .ok (.enter f args) w) (v : Value) (hc : Calls P f args w fun e w' => e = .returned v ∧ Below w.heap.size w w')
    (k : ∀ a' w', EV a' n d (putE env op.dst v) → MM S w0 w' L → wpAnyH P .any ops Q (fun w' => MM S w0 w' Ls) fuel (listed.setIfInBounds i true) a' w') : wpAnyH P .any ops Q (fun w' => MM S w0 w' Ls) (fuel + 1) listed a w := by
  refine wh_one hr hi hw fun K hK => ?_
  unfold Oper.wp
  rw [hrun]
  refine hc.mono ?_
  rintro e w' ⟨rfl, hb⟩
  have hm' := hm.kb (KB.of_below hb)
  exact hK _ _ (hm'.sub Ls hS) (k _ _ (he.putO _ _ hd) hm')
/-- The one that comes up, not wanted. -/
theorem wh_pass {i : Nat} {op : Oper} (hr : Region.ready .any ops listed = [i]) (hi : ops[i]? = some op) (he : EV a n d env) (hm : MM S w0 w L) (hS : SubL L Ls) (hd : op.dst.all (· < n) = true) (hw : Region.wanted op (yielded ops a.tmps) = false)
    (k : ∀ a', EV a' n d (putE env op.dst undef) → wpAnyH P .any ops Q (fun w' => MM S w0 w' Ls) fuel (listed.setIfInBounds i true) a' w) : wpAnyH P .any ops Q (fun w' => MM S w0 w' Ls) (fuel + 1) listed a w := by
  refine wpAnyH_ready (rs := [i]) hr (by simp) (AllReadyH.cons hi (fun K hK => ?_) AllReadyH.nil)
  rw [if_neg (by rw [hw]; decide)]
  exact hK.out _ _ (hm.sub Ls hS) fun _ => k _ (he.putO _ _ hd)
theorem wh_callP {i : Nat} {op : Oper} (hr : Region.ready .any ops listed = [i]) (hi : ops[i]? = some op) (hm : MM S w0 w L) (hw : Region.wanted op (yielded ops a.tmps) = true)
    (f : FuncId) (args : Array Value) (hrun : (execOp a.eval op).run P w = .ok (.enter f args) w) (ch : List PanicEntry) (hc : Calls P f args w fun e w' => e = .panicked ch ∧ Below w.heap.size w w')
    (k : ∀ w', MM S w0 w' L → Q (.panic ch) a w') : wpAnyH P .any ops Q SS (fuel + 1) listed a w := by
  refine wh_one hr hi hw fun K hK => ?_
  unfold Oper.wp
  rw [hrun]
  refine hc.mono ?_
  rintro e w' ⟨rfl, hb⟩
  exact k _ (hm.kb (KB.of_below hb))
theorem wh_store {i : Nat} {op : Oper} (hr : Region.ready .any ops listed = [i]) (hi : ops[i]? = some op) (he : EV a n d env) (hm : MM S w0 w L) (key : Nat) {b : Nat} {T0 : TypeId} {A : Array Value} (hl : L.lookup key = some ⟨true, b, T0, A⟩) (hd : op.dst = none) (hw : Region.wanted op (yielded ops a.tmps) = true) (T : TypeId) (x y : Operand) (ho : op.op = .store T x y) (off : Nat)
    (hx : a.eval x = .pointer (some ⟨b, off, none⟩)) (v : Value) (hy : a.eval y = v) (m : Nat) (hT : ∀ w, (sizeOf T).run P w = .ok m w) (hz : v.cells.size = m) (hc : v.cells.all (·.oneCell') = true) (hin : off + m ≤ A.size) (A' : Array Value) (hA : ovw A off v.cells.toList = A')
    (hS : SubL ((key, ⟨true, b, T0, A'⟩) :: L) Ls)
    (k : ∀ w', MM S w0 w' ((key, ⟨true, b, T0, A'⟩) :: L) → wpAnyH P .any ops Q (fun w' => MM S w0 w' Ls) fuel (listed.setIfInBounds i true) a w') : wpAnyH P .any ops Q (fun w' => MM S w0 w' Ls) (fuel + 1) listed a w := by
  refine wh_one hr hi hw fun K hK => ?_
  unfold Oper.wp
  have hb := hm.has key _ hl
  have hs := run_storeCells_cells (P := P) b off v.cells.toList 0 w
    (fun j hj => by rw [hb.cell]; simp at hj ⊢; omega)
    (fun j hj => hb.frozen _)
    (fun u hu => (Array.all_eq_true_iff_forall_mem.1 hc) u (by simpa using hu))
  simp only [Nat.add_zero] at hs
  have : (execOp a.eval op).run P w = .ok .skip (w.setCells b off v.cells.toList) := by
    unfold execOp
    simp [ho, hx, hy, Instr.storeAt, Instr.sureAddr, storeVar, Sem.run_bind, Sem.run_pure, hT, hz, hs]
  rw [this]
  show K (a.put op.dst undef) _
  rw [hd]
  have hm' := hm.sets key b T0 A hl off v.cells.toList
  rw [hA] at hm'
  exact hK _ _ (hm'.sub Ls hS) (k _ hm')
end
end Go.Proofs.YtkaekiodjjhjkaaDoor
