/- A table out of a list of pairs. -/
import Derived.RangeFuncNested
import Derived.RangeFuncBound
import Derived.RangeFuncCalls
import Derived.RangeFuncLeaves
import Derived.RangeFuncBox
import Derived.Shelf.Abstract
import Derived.WalkKit
import Derived.OwnWalkIn
import Derived.TacticsInMore
import Derived.LoopNIn
import Derived.LoopIn
import Derived.Test.YtahbicegmioplaaTW
namespace Go.Proofs.Ytahbicegmioplaa
open Go.RowKit Go.Shelf
set_option linter.unusedSimpArgs false
set_option linter.unusedVariables false
attribute [local go_sem] Oper.semAt_some

/-- Block B holds a table. -/
def Box5 (W : World) (B : Nat) (k s r : Int) (v u : Value) : Prop := W.heap[B]? = some (.cells #[.int .i64 k, .int .i64 s, .int .i64 r, v, u] 28 (0, 0))
section
variable {W W' : World} {B : Nat} {k s r : Int} {v u : Value}
theorem Box5.lt (h : Box5 W B k s r v u) : B < W.heap.size := (Array.getElem?_eq_some_iff.1 h).1
theorem Box5.cells (h : Box5 W B k s r v u) : W.cell? ⟨B, 0, none⟩ = some (.int .i64 k) ∧ W.cell? ⟨B, 1, none⟩ = some (.int .i64 s) ∧ W.cell? ⟨B, 2, none⟩ = some (.int .i64 r) ∧ W.cell? ⟨B, 3, none⟩ = some v ∧ W.cell? ⟨B, 4, none⟩ = some u := by simp [World.cell?, show W.heap[B]? = _ from h]
theorem Box5.frozen (h : Box5 W B k s r v u) (j : Nat) : W.frozen? ⟨B, j, none⟩ = false := by simp [World.frozen?, show W.heap[B]? = _ from h]
theorem Box5.kept {row : Option Nat} (h : Box5 W B k s r v u) (hg : W.grownBy W' row) (hne : some B ≠ row) : Box5 W' B k s r v u := (hg.block B (Box5.lt h) hne).trans h
theorem Box5.set3 (v' : Value) (h : Box5 W B k s r v u) : Box5 (W.setCell ⟨B, 3, none⟩ v') B k s r v' u := by
  obtain ⟨hlt, hk⟩ := Array.getElem?_eq_some_iff.1 h
  show (W.heap.modify B _)[B]? = _
  rw [Array.getElem?_eq_getElem (by rw [Array.size_modify]; exact hlt), Array.getElem_modify_self, hk]
  rfl
theorem Box5.set4 (v' : Value) (h : Box5 W B k s r v u) : Box5 (W.setCell ⟨B, 4, none⟩ v') B k s r v v' := by
  obtain ⟨hlt, hk⟩ := Array.getElem?_eq_some_iff.1 h
  show (W.heap.modify B _)[B]? = _
  rw [Array.getElem?_eq_getElem (by rw [Array.size_modify]; exact hlt), Array.getElem_modify_self, hk]
  rfl
theorem Box5.set0 (x : Int) (h : Box5 W B k s r v u) : Box5 (W.setCell ⟨B, 0, none⟩ (.int .i64 x)) B x s r v u := by
  obtain ⟨hlt, hk⟩ := Array.getElem?_eq_some_iff.1 h
  show (W.heap.modify B _)[B]? = _
  rw [Array.getElem?_eq_getElem (by rw [Array.size_modify]; exact hlt), Array.getElem_modify_self, hk]
  rfl
theorem Box5.set1 (x : Int) (h : Box5 W B k s r v u) : Box5 (W.setCell ⟨B, 1, none⟩ (.int .i64 x)) B k x r v u := by
  obtain ⟨hlt, hk⟩ := Array.getElem?_eq_some_iff.1 h
  show (W.heap.modify B _)[B]? = _
  rw [Array.getElem?_eq_getElem (by rw [Array.size_modify]; exact hlt), Array.getElem_modify_self, hk]
  rfl
theorem Box5.set2 (x : Int) (h : Box5 W B k s r v u) : Box5 (W.setCell ⟨B, 2, none⟩ (.int .i64 x)) B k s x v u := by
  obtain ⟨hlt, hk⟩ := Array.getElem?_eq_some_iff.1 h
  show (W.heap.modify B _)[B]? = _
  rw [Array.getElem?_eq_getElem (by rw [Array.size_modify]; exact hlt), Array.getElem_modify_self, hk]
  rfl
theorem Box5.not_row (h : Box5 W B k s r v u) {e : TypeId} (hte : (28 : TypeId) ≠ e) {base size n : Nat} {x : Value} {xs : List Value} (hr : W.ownsRow base e size x n xs) : some B ≠ x.ownBlock := by
  rcases hr.2 with ⟨rfl, _⟩ | ⟨g, cap, cur, rfl, _, hgb, _⟩
  · simp [Value.ownBlock]
  · intro e'
    obtain rfl : B = g := by simpa [Value.ownBlock] using e'
    have := (show W.heap[B]? = _ from h).symm.trans hgb
    simp at this
    exact hte this.2
end
theorem grownBy_setCell5 (W : World) (b j : Nat) (v : Value) : W.grownBy (W.setCell ⟨b, j, none⟩ v) (some b) :=
  ⟨rfl, rfl, rfl, (KeepsWalks.setCell W _ v).size, fun k _ hk => Below.heap_setCell _ _ _ k (fun e => hk (by rw [e]))⟩
/-- The five stores of a table. -/
def st5 (W : World) (B : Nat) (k s r : Int) (v u : Value) : World := ((((W.setCell ⟨B, 0, none⟩ (.int .i64 k)).setCell ⟨B, 1, none⟩ (.int .i64 s)).setCell ⟨B, 2, none⟩ (.int .i64 r)).setCell ⟨B, 3, none⟩ v).setCell ⟨B, 4, none⟩ u
theorem Box5.st5 {W : World} {B : Nat} {k s r k' s' r' : Int} {v u v' u' : Value} (h : Box5 W B k s r v u) : Box5 (st5 W B k' s' r' v' u') B k' s' r' v' u' := Box5.set4 _ (Box5.set3 _ (Box5.set2 _ (Box5.set1 _ (Box5.set0 _ h))))
theorem st5_keeps (W : World) (B : Nat) (k s r : Int) (v u : Value) : KeepsOthers W (st5 W B k s r v u) := ((((KeepsOthers.setCell _ _ _).trans (KeepsOthers.setCell _ _ _)).trans (KeepsOthers.setCell _ _ _)).trans (KeepsOthers.setCell _ _ _)).trans (KeepsOthers.setCell _ _ _)
theorem st5_below {W₀ W : World} {n₀ : Nat} (B : Nat) (k s r : Int) (v u : Value) (h : Below n₀ W₀ W) (hB : n₀ ≤ B) : Below n₀ W₀ (st5 W B k s r v u) := ((((h.setCell hB _).setCell hB _).setCell hB _).setCell hB _).setCell hB _
theorem grown2 {a b c : World} {row : Option Nat} (h : a.grownBy b row) (k : b.grownBy c row) : a.grownBy c row := ⟨k.os.trans h.os, k.tape.trans h.tape, k.output.trans h.output, Nat.le_trans h.size k.size, fun q hq hne => (k.block q (Nat.lt_of_lt_of_le hq h.size) hne).trans (h.block q hq hne)⟩
theorem st5_grown (W : World) (B : Nat) (k s r : Int) (v u : Value) : W.grownBy (st5 W B k s r v u) (some B) :=
  grown2 (grown2 (grown2 (grown2 (grownBy_setCell5 _ _ _ _) (grownBy_setCell5 _ _ _ _)) (grownBy_setCell5 _ _ _ _)) (grownBy_setCell5 _ _ _ _)) (grownBy_setCell5 _ _ _ _)
theorem row_st5 {W : World} {B : Nat} {k s r k' s' r' : Int} {v u v' u' : Value} (h : Box5 W B k s r v u) {e : TypeId} (hte : (28 : TypeId) ≠ e) {base size n : Nat} {x : Value} {xs : List Value} (hr : W.ownsRow base e size x n xs) : (Go.Proofs.Ytahbicegmioplaa.st5 W B k' s' r' v' u').ownsRow base e size x n xs :=
  hr.kept (st5_grown _ _ _ _ _ _ _) (.inr (Box5.not_row h hte hr).symm)
theorem rows_apart {W : World} {n₀ n₁ : Nat} {e e' : TypeId} {s s' n m : Nat} {v u : Value} {xs ys : List Value} (h : W.ownsRow n₀ e s v n xs) (h' : W.ownsRow n₁ e' s' u m ys) (hne : e ≠ e') : v.ownBlock = none ∨ v.ownBlock ≠ u.ownBlock := by
  rcases h.2 with ⟨rfl, _⟩ | ⟨g, cap, cur, rfl, _, hgb, _⟩
  · exact .inl rfl
  · right
    intro e1
    rcases h'.2 with ⟨rfl, _⟩ | ⟨g', cap', cur', rfl, _, hgb', _⟩
    · simp [Value.ownBlock] at e1
    · obtain rfl : g = g' := by simpa [Value.ownBlock] using e1
      have := hgb.symm.trans hgb'
      simp at this
      exact hne this.2
theorem row_own {W W' : World} {row : Option Nat} {n₀ e s n : Nat} {v : Value} {xs : List Value} (h : W.ownsRow n₀ e s v n xs) (hg : W.grownBy W' row) (hrow : ∀ r, row = some r → ∃ o : Obj, W.heap[r]? = some o ∧ o.isCells = false) : W'.ownsRow n₀ e s v n xs := by
  refine h.kept hg ?_
  rcases h.2 with ⟨rfl, _⟩ | ⟨g, cap, cur, rfl, _, hgb, _⟩
  · exact .inl rfl
  · refine .inr fun e' => ?_
    obtain ⟨o, ho, hc⟩ := hrow g (by simpa [Value.ownBlock] using e'.symm)
    rw [hgb] at ho; cases ho; cases hc

theorem Box5.app3 {W w1 : World} {n₀ B : Nat} {k s r : Int} {v v' u : Value} {n m q : Nat} {xs ys zs : List Value} {tmp : Obj}
    (hv : Box5 W B k s r v u) (hrow : W.ownsRow n₀ 3 1 v n xs) (hrow2 : W.ownsRow n₀ 9 1 u m ys) (hn₀ : n₀ ≤ W.heap.size) (hB : n₀ ≤ B)
    (hown' : w1.ownsRow n₀ 3 1 v' q zs) (hgrow : (W.alloc tmp).grownBy w1 v.ownBlock) :
    Box5 w1 B k s r v u ∧ Box5 (w1.setCell ⟨B, 3, none⟩ v') B k s r v' u ∧ (w1.setCell ⟨B, 3, none⟩ v').ownsRow n₀ 3 1 v' q zs ∧ (w1.setCell ⟨B, 3, none⟩ v').ownsRow n₀ 9 1 u m ys ∧ KeepsOthers W (w1.setCell ⟨B, 3, none⟩ v') ∧ Below n₀ W (w1.setCell ⟨B, 3, none⟩ v') := by
  have hv1 : Box5 w1 B k s r v u := Box5.kept (Box5.kept hv (World.grownBy_alloc W tmp none) (by simp)) hgrow (Box5.not_row hv (by decide) hrow)
  have hr1 : w1.ownsRow n₀ 9 1 u m ys := (World.ownsRow.alloc hrow2 tmp).kept hgrow (rows_apart hrow2 hrow (by decide))
  refine ⟨hv1, Box5.set3 v' hv1, hown'.kept (grownBy_setCell5 w1 B 3 v') (.inr (Box5.not_row hv1 (by decide) hown').symm), hr1.kept (grownBy_setCell5 w1 B 3 v') (.inr (Box5.not_row hv1 (by decide) hr1).symm), ?_, ?_⟩
  · refine ((KeepsOthers.alloc W tmp).trans (KeepsOthers.of_grownBy hgrow fun j o ej hj => ?_)).trans (KeepsOthers.setCell _ _ _)
    rcases (hrow.alloc tmp).2 with ⟨rfl, _⟩ | ⟨g, cap, cur, rfl, _, hgb, _⟩
    · simp [Value.ownBlock] at ej
    · obtain rfl : g = j := by simpa [Value.ownBlock] using ej
      rw [hgb] at hj; cases hj; rfl
  · exact (((Below.refl n₀ W).alloc hn₀ tmp).grown hgrow (by simp; omega) (own_base hrow)).setCell (p := ⟨B, 3, none⟩) hB v'

theorem Box5.app4 {W w1 : World} {n₀ B : Nat} {k s r : Int} {v v' u : Value} {n m q : Nat} {xs ys zs : List Value} {tmp : Obj}
    (hv : Box5 W B k s r u v) (hrow : W.ownsRow n₀ 9 1 v n xs) (hrow2 : W.ownsRow n₀ 3 1 u m ys) (hn₀ : n₀ ≤ W.heap.size) (hB : n₀ ≤ B)
    (hown' : w1.ownsRow n₀ 9 1 v' q zs) (hgrow : (W.alloc tmp).grownBy w1 v.ownBlock) :
    Box5 w1 B k s r u v ∧ Box5 (w1.setCell ⟨B, 4, none⟩ v') B k s r u v' ∧ (w1.setCell ⟨B, 4, none⟩ v').ownsRow n₀ 9 1 v' q zs ∧ (w1.setCell ⟨B, 4, none⟩ v').ownsRow n₀ 3 1 u m ys ∧ KeepsOthers W (w1.setCell ⟨B, 4, none⟩ v') ∧ Below n₀ W (w1.setCell ⟨B, 4, none⟩ v') := by
  have hv1 : Box5 w1 B k s r u v := Box5.kept (Box5.kept hv (World.grownBy_alloc W tmp none) (by simp)) hgrow (Box5.not_row hv (by decide) hrow)
  have hr1 : w1.ownsRow n₀ 3 1 u m ys := (World.ownsRow.alloc hrow2 tmp).kept hgrow (rows_apart hrow2 hrow (by decide))
  refine ⟨hv1, Box5.set4 v' hv1, hown'.kept (grownBy_setCell5 w1 B 4 v') (.inr (Box5.not_row hv1 (by decide) hown').symm), hr1.kept (grownBy_setCell5 w1 B 4 v') (.inr (Box5.not_row hv1 (by decide) hr1).symm), ?_, ?_⟩
  · refine ((KeepsOthers.alloc W tmp).trans (KeepsOthers.of_grownBy hgrow fun j o ej hj => ?_)).trans (KeepsOthers.setCell _ _ _)
    rcases (hrow.alloc tmp).2 with ⟨rfl, _⟩ | ⟨g, cap, cur, rfl, _, hgb, _⟩
    · simp [Value.ownBlock] at ej
    · obtain rfl : g = j := by simpa [Value.ownBlock] using ej
      rw [hgb] at hj; cases hj; rfl
  · exact (((Below.refl n₀ W).alloc hn₀ tmp).grown hgrow (by simp; omega) (own_base hrow)).setCell (p := ⟨B, 4, none⟩) hB v'

def intsOf (ps : List Pr) : List Value := ps.map fun x => .int .i64 x.1
def strsOf (ps : List Pr) : List Value := ps.map fun x => .string x.2
theorem intsOf_snoc (ps : List Pr) (x : Pr) : intsOf (ps ++ [x]) = intsOf ps ++ [.int .i64 x.1] := by simp [intsOf]
theorem strsOf_snoc (ps : List Pr) (x : Pr) : strsOf (ps ++ [x]) = strsOf ps ++ [.string x.2] := by simp [strsOf]
theorem one_newE (W : World) (B : Nat) (t : TypeId) (x : Value) (hB : B = W.heap.size) : ∀ j u, [x][j]? = some u → (W.alloc (.cells #[x] t)).cell? ((⟨B, 0, none⟩ : Addr).add j) = some u := by
  subst hB
  intro j u hj
  have hl : j < 1 := (List.getElem?_eq_some_iff.1 hj).1
  obtain rfl : j = 0 := by omega
  simp at hj
  subst hj
  rw [Addr.add_lit, Nat.zero_add]
  exact (Boxed.new W t x).cell
theorem with_own {β : Type} (n₀ B : Nat) (k s r : Int) (f : β → List Pr) : Own (fun (p : β) W => ∃ v u, Box5 W B k s r v u ∧ W.ownsRow n₀ 3 1 v (f p).length (intsOf (f p)) ∧ W.ownsRow n₀ 9 1 u (f p).length (strsOf (f p))) := by
  rintro p X Y row ⟨v, u, hb, h1, h2⟩ hg hrow
  refine ⟨v, u, Box5.kept hb hg (fun e' => ?_), row_own h1 hg hrow, row_own h2 hg hrow⟩
  obtain ⟨o, ho, hc⟩ := hrow B e'.symm
  rw [show X.heap[B]? = _ from hb] at ho; cases ho; cases hc

theorem box5_own {β : Type} (B : Nat) (k s r : Int) (v u : Value) : Own (fun (_ : β) W => Box5 W B k s r v u) := by
  rintro p X Y row hb hg hrow
  refine Box5.kept hb hg (fun e' => ?_)
  obtain ⟨o, ho, hc⟩ := hrow B e'.symm
  rw [show X.heap[B]? = _ from hb] at ho; cases ho; cases hc
theorem own_slice {W : World} {n₀ e s n : Nat} {v : Value} {xs : List Value} (h : W.ownsRow n₀ e s v n xs) : ∃ a cap, v = .slice a n cap := by
  rcases h.2 with ⟨rfl, rfl⟩ | ⟨g, cap, cur, rfl, _⟩
  · exact ⟨none, 0, rfl⟩
  · exact ⟨_, cap, rfl⟩

set_option maxRecDepth 100000 in
set_option maxHeartbeats 4000000 in
theorem with_in (k s r : Int) (a b : Option Addr) (n m c d : Nat) (pa : Option Addr) (cap : Nat) (ps : List Pr) (hlen : ps.length ≤ 1048576) (w : World) (hI : ArgP w.heap.size w pa ps) :
    CallsIn Fence.wide 3 Try.prog 37 #[.agg #[.int .i64 k, .int .i64 s, .int .i64 r, .slice a n c, .slice b m d], .slice pa ps.length cap] w fun e W' => ∃ v u, e = .returned (.agg #[.int .i64 k, .int .i64 s, .int .i64 r, v, u]) ∧ W'.ownsRow w.heap.size 3 1 v ps.length (intsOf ps) ∧ W'.ownsRow w.heap.size 9 1 u ps.length (strsOf ps) ∧ Below w.heap.size w W' := by
  obtain ⟨i0, hi, hz0, hz1, hz2⟩ := info_parts info3
  obtain ⟨j0, hj, hy0, hy1, hy2⟩ := info_parts info9
  have hro : Fence.wide.round = none := rfl
  refine callsIn_of_wp_marks Try.func37 rfl trivial ?_ hro
  simp only [Try.ntmps37, List.size_toArray, List.length_cons, List.length_nil, Nat.reduceAdd, Nat.reduceSub, Array.replicate_succ, Array.replicate_zero, List.push_toArray, List.append_toArray, List.nil_append, List.cons_append]
  gi_wp2_with fail
  refine ⟨trivial, (all_in Fence.wide 2 trivial hro _ _ _ _).mono ?_⟩
  rintro e w' ⟨rfl, rfl⟩
  gi_wp2_with fail
  have bO : Box5 (((w.alloc (.cells #[.int .i64 k, .int .i64 s, .int .i64 r, .slice a n c, .slice b m d] 28)).alloc (.cells #[.int .i64 0, .int .i64 0, .int .i64 0, .slice none 0 0, .slice none 0 0] 28)).alloc (.cells #[.int .i64 k, .int .i64 s, .int .i64 r, .slice none 0 0, .slice none 0 0] 28)) (w.heap.size + 1 + 1) k s r (.slice none 0 0) (.slice none 0 0) := by have := World.alloc_heap_new ((w.alloc (.cells #[.int .i64 k, .int .i64 s, .int .i64 r, .slice a n c, .slice b m d] 28)).alloc (.cells #[.int .i64 0, .int .i64 0, .int .i64 0, .slice none 0 0, .slice none 0 0] 28)) (.cells #[.int .i64 k, .int .i64 s, .int .i64 r, .slice none 0 0, .slice none 0 0] 28); simpa [Box5] using this
  have bR : Box5 ((w.alloc (.cells #[.int .i64 k, .int .i64 s, .int .i64 r, .slice a n c, .slice b m d] 28)).alloc (.cells #[.int .i64 0, .int .i64 0, .int .i64 0, .slice none 0 0, .slice none 0 0] 28)) (w.heap.size + 1) 0 0 0 (.slice none 0 0) (.slice none 0 0) := by have := World.alloc_heap_new (w.alloc (.cells #[.int .i64 k, .int .i64 s, .int .i64 r, .slice a n c, .slice b m d] 28)) (.cells #[.int .i64 0, .int .i64 0, .int .i64 0, .slice none 0 0, .slice none 0 0] 28); simpa [Box5] using this
  have bN := Boxed.new (((w.alloc (.cells #[.int .i64 k, .int .i64 s, .int .i64 r, .slice a n c, .slice b m d] 28)).alloc (.cells #[.int .i64 0, .int .i64 0, .int .i64 0, .slice none 0 0, .slice none 0 0] 28)).alloc (.cells #[.int .i64 k, .int .i64 s, .int .i64 r, .slice none 0 0, .slice none 0 0] 28)) 55 (.slice pa ps.length cap)
  simp only [World.size_alloc] at bN
  have hB0 : Below w.heap.size w ((((w.alloc (.cells #[.int .i64 k, .int .i64 s, .int .i64 r, .slice a n c, .slice b m d] 28)).alloc (.cells #[.int .i64 0, .int .i64 0, .int .i64 0, .slice none 0 0, .slice none 0 0] 28)).alloc (.cells #[.int .i64 k, .int .i64 s, .int .i64 r, .slice none 0 0, .slice none 0 0] 28)).alloc (.cells #[.slice pa ps.length cap] 55)) := ((((Below.refl _ w).alloc (Nat.le_refl _) _).alloc (by simp) _).alloc (by simp; omega) _).alloc (by simp; omega) _
  refine wpIn_rangeFunc_ownG (n := 3) hro (show 1 ≤ 3 by omega) (gf := 76) (lb := #[.pointer (some ⟨w.heap.size + 1 + 1 + 1, 0, none⟩)]) rfl trivial (enters_of Try.func76 (by kernel_rfl) rfl)
    (all_stops Fence.wide 2 trivial hro (by omega) (w.heap.size + 1 + 1 + 1) w.heap.size pa cap ps hlen _ (by simp) (by simp; omega) bN.cell (hI.below hB0)) belowK_t (belowK_b (by simp; omega)) (Below.refl _ _) (fun _ => rfl)
    (fun pre W => ((∃ v u, Box5 W (w.heap.size + 1 + 1) k s r v u ∧ W.ownsRow w.heap.size 3 1 v pre.length (intsOf pre) ∧ W.ownsRow w.heap.size 9 1 u pre.length (strsOf pre)) ∧ Box5 W (w.heap.size + 1) 0 0 0 (.slice none 0 0) (.slice none 0 0)) ∧ Below w.heap.size w W)
    (fun _ _ _ => False)
    (OwnFrom.and (OwnFrom.and (Own.from (with_own w.heap.size (w.heap.size + 1 + 1) k s r (fun pre => pre)) _) (Own.from (box5_own _ _ _ _ _ _) _)) (ownFrom_below (Nat.le_refl _) (by simp; omega)))
    (fun _ _ _ _ _ hs _ _ => hs)
    ⟨⟨⟨_, _, Box5.kept bO (World.grownBy_alloc _ _ none) (by simp), World.ownsRow_nil _ _ _ _, World.ownsRow_nil _ _ _ _⟩, Box5.kept (Box5.kept bR (World.grownBy_alloc _ _ none) (by simp)) (World.grownBy_alloc _ _ none) (by simp)⟩, hB0⟩
    (fun x => { tmps := #[.agg #[.int .i64 k, .int .i64 s, .int .i64 r, .slice a n c, .slice b m d], .slice pa ps.length cap, .pointer (some ⟨w.heap.size, 0, none⟩), undef, .pointer (some ⟨w.heap.size + 1, 0, none⟩), .pointer (some ⟨w.heap.size + 1 + 1, 0, none⟩), .int .i64 x.1, .string x.2, .pointer (some ⟨w.heap.size, 0, none⟩), .int .i64 k, .pointer (some ⟨w.heap.size, 1, none⟩), .int .i64 s, .pointer (some ⟨w.heap.size, 2, none⟩), .int .i64 r, .agg #[.int .i64 k, .int .i64 s, .int .i64 r, .slice none 0 0, .slice none 0 0], .slice pa ps.length cap, .func (.func 76) #[] #[.pointer (some ⟨w.heap.size + 1 + 1 + 1, 0, none⟩)], .int .i64 x.1, .string x.2, undef, undef, undef, undef, undef, undef, undef, undef, undef, undef, undef, undef, undef], defers := [] }) ?assign ?body ?done ?stop
  case assign =>
    intro l x W K hK
    gi_wp2
    exact hK
  case body =>
    rintro l pre x W ⟨⟨⟨v, u, hb, h1, h2⟩, hrb⟩, hB⟩ hlt
    obtain ⟨c0, c1, c2, c3, c4⟩ := Box5.cells hb
    have hW := hB.size
    gi_wp2_with (first
      | (gi_at_builtin; refine wpListIn_append_own _ rfl _ _ 25 rfl w.heap.size 3 i0 (.int .i64 0) 1 8 Try.underlying25 hi hz0 hz1 hz2 rfl (by decide) _ _ _ rfl (World.ownsRow.alloc h1 _) ⟨W.heap.size, 0, none⟩ 1 1 [.int .i64 x.1] rfl rfl (one_newE _ _ _ _ (by simp)) (by simp [Value.oneCell']) (by unfold maxLen; omega) (by omega) (by simp; omega) ?_; intro v' w1 hown' hgrow _; obtain ⟨g', cap', rfl⟩ := ownsRow_succ hown'; obtain ⟨hb1, hb2, hr2, hs2, hk2, hl2⟩ := Box5.app3 hb h1 h2 hB.size (by omega) hown' hgrow; obtain ⟨d0, d1, d2, d3, d4⟩ := Box5.cells hb1; have hf1 := Box5.frozen hb1; obtain ⟨e0, e1, e2, e3, e4⟩ := Box5.cells hb2; have hz := hl2.size; simp only [World.size_setCell] at hz)
      | (gi_at_builtin; refine wpListIn_append_own _ rfl _ _ 26 rfl w.heap.size 9 j0 (.string ⟨#[]⟩) 1 16 Try.underlying26 hj hy0 hy1 hy2 rfl (by decide) _ _ _ rfl (World.ownsRow.alloc hs2 _) ⟨w1.heap.size, 0, none⟩ 1 1 [.string x.2] rfl rfl (one_newE _ _ _ _ (by simp)) (by simp [Value.oneCell']) (by unfold maxLen; omega) (by omega) (by simp; omega) ?_; intro v2' w2 hown2' hgrow2 _; obtain ⟨g2', cap2', rfl⟩ := ownsRow_succ hown2'; obtain ⟨hb3, hb4, hr4, hs4, hk4, hl4⟩ := Box5.app4 hb2 hs2 hr2 (by simp; omega) (by omega) hown2' hgrow2; obtain ⟨f0, f1, f2, f3, f4⟩ := Box5.cells hb3; have hf3 := Box5.frozen hb3))
    refine ⟨(hk2.trans hk4).from _, hl2.trans hl4, ⟨⟨_, _, hb4, by rw [intsOf_snoc]; simpa using hs4, by rw [strsOf_snoc]; simpa using hr4⟩, ?_⟩, (hB.trans hl2).trans hl4⟩
    have q1 := Box5.kept (Box5.kept (Box5.kept hrb (World.grownBy_alloc _ _ none) (by simp)) hgrow (Box5.not_row hrb (by decide) h1)) (grownBy_setCell5 w1 (w.heap.size + 1 + 1) 3 (.slice (some ⟨g', 0, none⟩) (pre.length + 1) cap')) (by simp)
    exact Box5.kept (Box5.kept (Box5.kept q1 (World.grownBy_alloc _ _ none) (by simp)) hgrow2 (Box5.not_row q1 (by decide) hs2)) (grownBy_setCell5 w2 (w.heap.size + 1 + 1) 4 (.slice (some ⟨g2', 0, none⟩) (pre.length + 1) cap2')) (by simp)
  case done =>
    rintro D ys W hD rfl ⟨⟨⟨v, u, hb, h1, h2⟩, hrb⟩, hB⟩ hK
    obtain ⟨c0, c1, c2, c3, c4⟩ := Box5.cells hb
    obtain ⟨q0, q1, q2, q3, q4⟩ := Box5.cells hrb
    have hfr := Box5.frozen hrb
    obtain ⟨a1, cap1, rfl⟩ := own_slice h1
    obtain ⟨a2, cap2, rfl⟩ := own_slice h2
    gi_wp2_with fail
    have s5 := Box5.st5 hrb (k' := k) (s' := s) (r' := r) (v' := .slice a1 ys.length cap1) (u' := .slice a2 ys.length cap2)
    have hK' := (st5_keeps W (w.heap.size + 1) k s r (.slice a1 ys.length cap1) (.slice a2 ys.length cap2)).same D _ hK rfl
    have r1 := row_st5 hrb (by decide) h1 (k' := k) (s' := s) (r' := r) (v' := .slice a1 ys.length cap1) (u' := .slice a2 ys.length cap2)
    have r2 := row_st5 hrb (by decide) h2 (k' := k) (s' := s) (r' := r) (v' := .slice a1 ys.length cap1) (u' := .slice a2 ys.length cap2)
    have b5 := st5_below (w.heap.size + 1) k s r (.slice a1 ys.length cap1) (.slice a2 ys.length cap2) hB (by omega)
    simp at hD
    refine ⟨by simp, .inl ⟨_, _, rfl, run_takeDeferred hK', ?_⟩⟩
    have p5 := Box5.kept s5 (grownBy_putObj' _ D (.deferred none)) (by simp; omega)
    obtain ⟨p0, p1, p2, p3, p4⟩ := Box5.cells p5
    refine ⟨.agg #[.int .i64 k, .int .i64 s, .int .i64 r, .slice a1 ys.length cap1, .slice a2 ys.length cap2], ?_, _, _, rfl, ownsRow_putObj r1 _ hK' rfl, ownsRow_putObj r2 _ hK' rfl, b5.trans (belowK_b (w := w) (Nat.le_refl _) _ D _ _ (by omega) hK' rfl rfl)⟩
    unfold st5 at p0 p1 p2 p3 p4
    simp [results, Try.f37, go_sem, p0, p1, p2, p3, p4]
  case stop =>
    rintro D c pre W _ _ h _
    exact h.elim

theorem f40 (k s r : Int) (a b : Option Addr) (n m c d : Nat) (pa : Option Addr) (cap : Nat) (ps : List Pr) (hlen : ps.length ≤ 1048576) (w : World) (hI : ArgP w.heap.size w pa ps) :
    Calls Try.prog 37 #[.agg #[.int .i64 k, .int .i64 s, .int .i64 r, .slice a n c, .slice b m d], .slice pa ps.length cap] w fun e W' => ∃ v u, e = .returned (.agg #[.int .i64 k, .int .i64 s, .int .i64 r, v, u]) ∧ W'.ownsRow w.heap.size 3 1 v ps.length (intsOf ps) ∧ W'.ownsRow w.heap.size 9 1 u ps.length (strsOf ps) ∧ Below w.heap.size w W' :=
  (callsIn_wide (n := 3)).1 (with_in k s r a b n m c d pa cap ps hlen w hI)

end Go.Proofs.Ytahbicegmioplaa
