/- Steps: calls that answer a new row. -/
import Derived.Test.YtkaekiodjjhjkaaDoorSV
import Derived.Laws.OwnMore
namespace Go.Proofs.YtkaekiodjjhjkaaDoor
open Go.RowKit
set_option linter.unusedVariables false
set_option linter.unusedSimpArgs false
theorem MM.new {S : List Nat} {w0 w w' : World} {L : List (Nat × Ent)} (h : MM S w0 w L) (key : Nat) (b : Nat) (T : TypeId) (A : Array Value) (hk : L.lookup key = none) (hb : Below w.heap.size w w') (hx : BX w' b T A) (hs : w.heap.size ≤ b) : MM S w0 w' ((key, ⟨true, b, T, A⟩) :: L) := by
  have h' := h.kb (KB.of_below hb)
  refine ⟨h'.keep, ?_, ?_, ?_⟩
  · intro k e hl
    rw [lk] at hl
    split at hl
    · cases hl; exact hx
    · exact h'.has k e hl
  · intro k e hl ho
    rw [lk] at hl
    split at hl
    · cases hl; exact .inl (Nat.le_trans h.keep.size hs)
    · exact h.own k e hl ho
  · intro j k e f hj hk' hne ho
    rw [lk] at hj hk'
    split at hj <;> split at hk'
    · rename_i h1 h2; exact absurd (h1.trans h2.symm) hne
    · cases hj; have := (h.has k f hk').lt; show b ≠ f.b; omega
    · cases hk'; have := (h.has j e hj).lt; show e.b ≠ b; omega
    · exact h.apart j k e f hj hk' hne ho
theorem Rw.nil (sz : Nat) : Rw (#[] : Array Value) 0 0 sz [] := ⟨Nat.le_refl _, Nat.zero_le _, by simp, by simp⟩
/-- An element of a row of texts that is known as a list. -/
theorem Rw.str {cur : Array Value} {L : List ByteArray} {cap : Nat} (h : Rw cur L.length cap 1 (L.map fun x => .string x)) (i : Nat) (hi : i < L.length) : cur[0 + i * 1]? = some (.string (L.getD i ⟨#[]⟩)) := by
  rw [Nat.zero_add, Nat.mul_one]
  refine h.get i _ ?_
  rw [List.getElem?_map, List.getD_eq_getElem?_getD, List.getElem?_eq_getElem hi]; rfl
/-- The answer is a new row. -/
def NewRow {α : Type} (w : World) (v : α → Nat → Value) (T : TypeId) (A : α → Array Value) (Φ : α → Prop) (e : Ending) (w' : World) : Prop :=
  ∃ (x : α) (b : Nat), e = .returned (v x b) ∧ BX w' b T (A x) ∧ Φ x ∧ w.heap.size ≤ b ∧ Below w.heap.size w w'
section
variable {P : Program} {ops : Array Oper} {Q : Exit → Act → World → Prop} {rest : List Oper} {op : Oper} {a : Act} {w w0 : World} {S : List Nat} {L Ls : List (Nat × Ent)}
  {n : Nat} {d : List Deferred} {env : List (Nat × Value)} {fuel : Nat} {listed : Array Bool} {α : Type}
theorem rn_saddZ (T U : TypeId) (x y : Operand) (ho : op.op = .binOp .add T x y U) (p q : ByteArray) (hx : a.eval x = .string p) (hy : a.eval y = .string q) (h : p.size + q.size ≤ 9223372036854775807) (z : ByteArray) (hz : z = p ++ q) : (execOp a.eval op).run P w = .ok (.value (.string z)) w := by
  subst hz; exact rn_sadd T U x y ho p q hx hy h
theorem wl_make (he : EV a n d env) (hm : MM S w0 w L) (key : Nat) (hk : L.lookup key = none) (hd : op.dst.all (· < n) = true) (hw : Region.wanted op (yielded ops a.tmps) = true) (l c : Operand) (t : TypeId) (ho : op.op = .makeSlice t l c)
    {e : TypeId} {z : Value} {size bytes : Nat} (E : ElT P t e z size bytes) (N : Nat) (hl : a.eval l = .int .i64 ((N : Nat) : Int)) (hc : a.eval c = .int .i64 ((N : Nat) : Int)) (hb : bytes * N ≤ 281474976710656) (h63 : N ≤ maxLen)
    (k : ∀ a' w' b, EV a' n d (putE env op.dst (.slice (some ⟨b, 0, none⟩) N N)) → MM S w0 w' ((key, ⟨true, b, e, madeCells z.cells (N * size)⟩) :: L) → wpList P ops Q rest a' w') : wpList P ops Q (op :: rest) a w := by
  have hi := E.info
  cases hii : P.info? e with
  | none => rw [hii] at hi; cases hi
  | some i =>
    rw [hii] at hi
    simp only [Option.map_some, Option.some.injEq, Prod.mk.injEq] at hi
    obtain ⟨hz, hs, hby⟩ := hi
    obtain ⟨w', hrun, hown, hg⟩ := run_make_full (P := P) w w.heap.size t e i z size E.und hii hz hs .i64 .i64 N (by rw [hby]; exact hb) h63 (Nat.le_refl _)
    unfold wpList
    rw [if_pos hw]
    refine .inl ?_
    unfold Oper.wp
    have ex : (execOp a.eval op).run P w = .ok (.value (.slice (some ⟨w.heap.size, 0, none⟩) N N)) w' := by
      unfold execOp
      simp only [ho, hl, hc, Sem.run_bind, hrun]; rfl
    rw [ex]
    rcases hown.2 with ⟨h, _⟩ | ⟨g, cap, cur, hv, _, hg', hle, _, hsz, htk⟩
    · cases h
    · obtain ⟨rfl, rfl⟩ : g = w.heap.size ∧ cap = N := by simp at hv; exact ⟨hv.1.symm, hv.2.symm⟩
      have hcur : cur = madeCells z.cells (cap * size) := by
        apply Array.toList_inj.1
        rw [← htk, List.take_of_length_le (by rw [Array.length_toList, hsz]; exact Nat.le_refl _)]
      subst hcur
      exact k _ _ _ (he.putO _ _ hd) (hm.new key _ e _ hk ⟨hg.os, hg.tape, hg.output, hg.size, fun k hk => hg.block k hk (by simp)⟩ hg' (Nat.le_refl _))
theorem wl_callN (he : EV a n d env) (hm : MM S w0 w L) (key : Nat) (hk : L.lookup key = none) (hd : op.dst.all (· < n) = true) (hw : Region.wanted op (yielded ops a.tmps) = true) (f : FuncId) (args : Array Value) (hr : (execOp a.eval op).run P w = .ok (.enter f args) w)
    {v : α → Nat → Value} {T : TypeId} {A : α → Array Value} {Φ : α → Prop} (hc : Calls P f args w fun e w' => NewRow w v T A Φ e w')
    (k : ∀ x b a' w', Φ x → EV a' n d (putE env op.dst (v x b)) → MM S w0 w' ((key, ⟨true, b, T, A x⟩) :: L) → wpList P ops Q rest a' w') : wpList P ops Q (op :: rest) a w := by
  unfold wpList
  rw [if_pos hw]
  refine .inl ?_
  unfold Oper.wp
  rw [hr]
  refine hc.mono ?_
  rintro e w' ⟨x, b, rfl, hx, hΦ, hs, hb⟩
  exact k x b _ _ hΦ (he.putO _ _ hd) (hm.new key b T (A x) hk hb hx hs)
/-- What holds behind a region, said once for all its orders. -/
def cutQ (I : Act → World → Prop) (Q : Exit → Act → World → Prop) (x : Exit) (a : Act) (w : World) : Prop := match x with
  | .normal => I a w
  | y => Q y a w
theorem rg_cut {c : Code} {a : Act} {w : World} (I : Act → World → Prop) (h : c.wp P (cutQ I Q) a w) (hc : ∀ a w, I a w → Q .normal a w) : c.wp P Q a w :=
  Code.wp_mono (fun e a w hq => by cases e <;> first | exact hc _ _ hq | exact hq) h
theorem st_call {i : Nat} (he : EV a n d env) (hm : MM S w0 w L) (hS : SubL L Ls) (hd : op.dst.all (· < n) = true) (hw : Region.wanted op (yielded ops a.tmps) = true) (f : FuncId) (args : Array Value) (hrun : (execOp a.eval op).run P w = .ok (.enter f args) w) (v : Value)
    (hc : Calls P f args w fun e w' => e = .returned v ∧ Below w.heap.size w w')
    (k : ∀ a' w', EV a' n d (putE env op.dst v) → MM S w0 w' L → wpAnyH P .any ops Q (fun w' => MM S w0 w' Ls) fuel (listed.setIfInBounds i true) a' w') :
    ∀ K' : Act → World → Prop, Shut (∀ a w, MM S w0 w Ls → (MM S w0 w Ls → wpAnyH P .any ops Q (fun w' => MM S w0 w' Ls) fuel (listed.setIfInBounds i true) a w) → K' a w) → if Region.wanted op (yielded ops a.tmps) = true then Oper.wp P op a w K' Q else K' (a.put op.dst undef) w := by
  intro K hK
  rw [if_pos hw]
  unfold Oper.wp
  rw [hrun]
  refine hc.mono ?_
  rintro e w' ⟨rfl, hb⟩
  have hm' := hm.kb (KB.of_below hb)
  exact hK.out _ _ (hm'.sub Ls hS) fun _ => k _ _ (he.putO _ _ hd) hm'
theorem st_alloc {i : Nat} (he : EV a n d env) (hm : MM S w0 w L) (key : Nat) (hk : L.lookup key = none) (hS : SubL L Ls) (hd : op.dst.all (· < n) = true) (hw : Region.wanted op (yielded ops a.tmps) = true) (T : TypeId) (ho : op.op = .alloc T) (z : Value) (hz : ∀ w, (zeroValue T).run P w = .ok z w) (A : Array Value) (hA : z.cells = A)
    (hS2 : ∀ b, SubL ((key, ⟨true, b, T, A⟩) :: L) Ls)
    (k : ∀ a' w' b, EV a' n d (putE env op.dst (.pointer (some ⟨b, 0, none⟩))) → MM S w0 w' ((key, ⟨true, b, T, A⟩) :: L) → wpAnyH P .any ops Q (fun w' => MM S w0 w' Ls) fuel (listed.setIfInBounds i true) a' w') :
    ∀ K' : Act → World → Prop, Shut (∀ a w, MM S w0 w Ls → (MM S w0 w Ls → wpAnyH P .any ops Q (fun w' => MM S w0 w' Ls) fuel (listed.setIfInBounds i true) a w) → K' a w) → if Region.wanted op (yielded ops a.tmps) = true then Oper.wp P op a w K' Q else K' (a.put op.dst undef) w := by
  intro K hK
  rw [if_pos hw]
  unfold Oper.wp
  have : (execOp a.eval op).run P w = .ok (.value (.pointer (some ⟨w.heap.size, 0, none⟩))) (w.alloc (.cells A T)) := by
    unfold execOp
    simp only [ho, ← hA, Instr.alloc, Sem.run_bind, hz, Result.andThen_ok]
    rfl
  rw [this]
  have hm' := hm.alloc key T A hk
  exact hK.out _ _ (hm'.sub Ls (hS2 _)) fun _ => k _ _ _ (he.putO _ _ hd) hm'
theorem wh_up {SS SS' : World → Prop} (h : ∀ w, SS' w → SS w) : ∀ (fuel : Nat) (listed : Array Bool) (a : Act) (w : World), wpAnyH P .any ops Q SS' fuel listed a w → wpAnyH P .any ops Q SS fuel listed a w
  | 0, _, _, _, H => H
  | fuel + 1, _, _, _, H => ⟨H.1, fun i hi => wpOp_mono (fun a' w' h' => ⟨h w' h'.1, wh_up h fuel _ a' w' h'.2⟩) (H.2 i hi)⟩
theorem wh_callN {i : Nat} {op : Oper} (hr : Region.ready .any ops listed = [i]) (hi : ops[i]? = some op) (he : EV a n d env) (hm : MM S w0 w L) (key : Nat) (hk : L.lookup key = none) (hd : op.dst.all (· < n) = true) (hw : Region.wanted op (yielded ops a.tmps) = true)
    (f : FuncId) (args : Array Value) (hrun : (execOp a.eval op).run P w = .ok (.enter f args) w)
    {v : α → Nat → Value} {T : TypeId} {A : α → Array Value} {Φ : α → Prop} (hc : Calls P f args w fun e w' => NewRow w v T A Φ e w') (hS : ∀ x b, SubL ((key, ⟨true, b, T, A x⟩) :: L) Ls) (hS2 : ∀ x b, SubL ((key, ⟨true, b, T, A x⟩) :: Ls) Ls)
    (k : ∀ x b a' w', Φ x → EV a' n d (putE env op.dst (v x b)) → MM S w0 w' ((key, ⟨true, b, T, A x⟩) :: L) → wpAnyH P .any ops Q (fun w' => MM S w0 w' ((key, ⟨true, b, T, A x⟩) :: Ls)) fuel (listed.setIfInBounds i true) a' w') : wpAnyH P .any ops Q (fun w' => MM S w0 w' Ls) (fuel + 1) listed a w := by
  refine wh_one hr hi hw fun K hK => ?_
  unfold Oper.wp
  rw [hrun]
  refine hc.mono ?_
  rintro e w' ⟨x, b, rfl, hx, hΦ, hs, hb⟩
  have hm' := hm.new key b T (A x) hk hb hx hs
  exact hK _ _ (hm'.sub Ls (hS x b)) (wh_up (fun w h => h.sub Ls (hS2 x b)) _ _ _ _ (k x b _ _ hΦ (he.putO _ _ hd) hm'))
end
end Go.Proofs.YtkaekiodjjhjkaaDoor
