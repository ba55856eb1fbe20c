/- The list of pairs without a key. -/
import Derived.RangeFuncNested
import Derived.RangeFuncBound
import Derived.RangeFuncCalls
import Derived.RangeFuncLeaves
import Derived.RangeFuncBox
import Derived.Shelf.Abstract
import Derived.WalkKit
import Derived.OwnWalkIn
import Derived.TacticsInMore
import Derived.LoopNIn
import Derived.LoopIn
import Derived.Test.YtahbicegmioplaaTM
namespace Go.Proofs.Ytahbicegmioplaa
open Go.RowKit Go.Shelf
set_option linter.unusedSimpArgs false
set_option linter.unusedVariables false
attribute [local go_sem] Oper.semAt_some

theorem boxed_own {β : Type} (B : Nat) (t : TypeId) (v : β → Value) : Own (fun (s : β) W => Boxed W B t (v s)) := by
  rintro s X Y row hv hg hrow
  exact hv.kept hg (fun e' => by obtain ⟨o, ho, hc⟩ := hrow B e'.symm; rw [show X.heap[B]? = _ from hv] at ho; cases ho; cases hc)
theorem Boxed.set_other {W : World} {B B' : Nat} {t : TypeId} {v : Value} (h : Boxed W B t v) (u : Value) (hne : B ≠ B') : Boxed (W.setCell ⟨B', 0, none⟩ u) B t v := h.kept (grownBy_setCell' _ _ _) (fun e => hne (by simpa using e))
theorem row_set {W : World} {B : Nat} {t e : TypeId} {u : Value} (h : Boxed W B t u) (hte : t ≠ e) {base size k : Nat} {v : Value} {xs : List Value} (hr : W.ownsRow base e size v k xs) (u' : Value) : (W.setCell ⟨B, 0, none⟩ u').ownsRow base e size v k xs :=
  hr.kept (grownBy_setCell' _ _ _) (.inr (h.not_row hte hr).symm)
/-- A box of another type, behind 'out = append(out, ..)'. -/
theorem Boxed.aside {W w1 : World} {B B' : Nat} {t e : TypeId} {base size k : Nat} {u v u' : Value} {xs : List Value} {tmp : Obj} (h : Boxed W B t u) (hte : t ≠ e) (hr : W.ownsRow base e size v k xs) (hg : (W.alloc tmp).grownBy w1 v.ownBlock) (hne : B ≠ B') : Boxed (w1.setCell ⟨B', 0, none⟩ u') B t u :=
  Boxed.set_other ((h.alloc tmp).kept hg (h.not_row hte hr)) _ hne
theorem pair_new (W : World) (x : Int) (y : ByteArray) : ∀ j u, [Value.int .i64 x, .string y][j]? = some u → (W.alloc (.cells #[.int .i64 x, .string y] 82)).cell? ((⟨W.heap.size, 0, none⟩ : Addr).add j) = some u := newsP_at W (x, y)
theorem pair_one (x : Int) (y : ByteArray) : ∀ u ∈ [Value.int .i64 x, .string y], u.oneCell' = true := newsP_one (x, y)
theorem pair_snoc {w : World} {base : Nat} {v : Value} {ps : List Pr} {x : Int} {y : ByteArray} (h : w.ownsRow base 82 2 v (ps.length + 1) (flatP ps ++ [.int .i64 x, .string y])) : w.ownsRow base 82 2 v (ps ++ [(x, y)]).length (flatP (ps ++ [(x, y)])) := by
  rw [flatP_snoc]; simpa using h

def dropP (ps : List Pr) (key : Int) : List Pr := ps.filter fun x => x.1 != key
theorem dropP_keep {pre : List Pr} {x : Pr} {key : Int} (h : (x.1 != key) = true) : dropP (pre ++ [x]) key = dropP pre key ++ [(x.1, x.2)] := by simp [dropP] at *; simp [h]
theorem dropP_miss {pre : List Pr} {x : Pr} {key : Int} (h : (x.1 != key) = false) : dropP (pre ++ [x]) key = dropP pre key := by simp [dropP] at *; simp [h]

set_option maxRecDepth 100000 in
set_option maxHeartbeats 4000000 in
theorem drop_in (a : Option Addr) (cap : Nat) (ps : List Pr) (key : Int) (hlen : ps.length ≤ 1048576) (w : World) (hI : ArgP w.heap.size w a ps) :
    CallsIn Fence.wide 3 Try.prog 56 #[.slice a ps.length cap, .int .i64 key] w fun e W' => ∃ v, e = .returned v ∧ W'.ownsRow w.heap.size 82 2 v (dropP ps key).length (flatP (dropP ps key)) ∧ Below w.heap.size w W' := by
  obtain ⟨i0, hi, hz0, hz1, hz2⟩ := info_parts info69
  have hro : Fence.wide.round = none := rfl
  refine callsIn_of_wp_marks Try.func56 rfl trivial ?_ hro
  simp only [Try.ntmps56, List.size_toArray, List.length_cons, List.length_nil, Nat.reduceAdd, Nat.reduceSub, Array.replicate_succ, Array.replicate_zero, List.push_toArray, List.append_toArray, List.nil_append, List.cons_append]
  gi_wp2_with fail
  refine ⟨trivial, (all_in Fence.wide 2 trivial hro _ _ _ _).mono ?_⟩
  rintro e w' ⟨rfl, rfl⟩
  gi_wp2_with fail
  have bK := Boxed.new w 3 (.int .i64 key)
  have bO := Boxed.new (w.alloc (.cells #[.int .i64 key] 3)) 55 (.slice none 0 0)
  have bN := Boxed.new ((w.alloc (.cells #[.int .i64 key] 3)).alloc (.cells #[.slice none 0 0] 55)) 55 (.slice a ps.length cap)
  simp only [World.size_alloc] at bO bN
  have hB0 : Below w.heap.size w (((w.alloc (.cells #[.int .i64 key] 3)).alloc (.cells #[.slice none 0 0] 55)).alloc (.cells #[.slice a ps.length cap] 55)) := (((Below.refl _ w).alloc (Nat.le_refl _) _).alloc (by simp) _).alloc (by simp; omega) _
  refine wpIn_rangeFunc_ownG (n := 3) hro (show 1 ≤ 3 by omega) (gf := 76) (lb := #[.pointer (some ⟨w.heap.size + 1 + 1, 0, none⟩)]) rfl trivial (enters_of Try.func76 (by kernel_rfl) rfl)
    (all_stops Fence.wide 2 trivial hro (by omega) (w.heap.size + 1 + 1) w.heap.size a cap ps hlen _ (by simp) (by simp; omega) bN.cell (hI.below hB0)) belowK_t (belowK_b (by simp; omega)) (Below.refl _ _) (fun _ => rfl)
    (fun pre W => ((∃ v, Boxed W (w.heap.size + 1) 55 v ∧ W.ownsRow w.heap.size 82 2 v (dropP pre key).length (flatP (dropP pre key)) ∧ True) ∧ Boxed W w.heap.size 3 (.int .i64 key)) ∧ Below w.heap.size w W)
    (fun _ _ _ => False)
    (OwnFrom.and (OwnFrom.and (Own.from (holdsRow_own w.heap.size (w.heap.size + 1) 55 82 2 (fun pre => (dropP pre key).length) (fun pre => flatP (dropP pre key)) (fun _ _ => True)) _) (Own.from (boxed_own _ _ (fun _ => .int .i64 key)) _)) (ownFrom_below (Nat.le_refl _) (by simp; omega)))
    (fun _ _ _ _ _ hs _ _ => hs)
    ⟨⟨⟨_, bO.alloc _, World.ownsRow_nil _ _ _ _, trivial⟩, (bK.alloc _).alloc _⟩, hB0⟩
    (fun x => { tmps := #[.slice a ps.length cap, .int .i64 key, undef, .pointer (some ⟨w.heap.size, 0, none⟩), .slice none 0 0, .pointer (some ⟨w.heap.size + 1, 0, none⟩), .int .i64 x.1, .string x.2, .slice a ps.length cap, .func (.func 76) #[] #[.pointer (some ⟨w.heap.size + 1 + 1, 0, none⟩)], .int .i64 x.1, .string x.2, undef, undef, undef, undef, undef, undef, undef, undef, undef, undef], defers := [] }) ?assign ?body ?done ?stop
  case assign =>
    intro l x W K hK
    gi_wp2
    exact hK
  case body =>
    rintro l pre x W ⟨⟨⟨v, hv, hrow, _⟩, hkb⟩, hB⟩ hlt
    have hck := hkb.cell
    have hc := hv.cell
    have hpl : (dropP pre key).length ≤ pre.length := List.length_filter_le _ _
    cases hx : (x.1 != key)
    · gi_wp2_with fail
      exact ⟨KeepsFrom.refl _ _, Below.refl _ _, ⟨⟨v, hv, by rw [dropP_miss hx]; exact hrow, trivial⟩, hkb⟩, hB⟩
    · gi_wp2_with (gi_at_builtin; refine wpListIn_append_own _ rfl _ _ 55 rfl w.heap.size 82 i0 (.agg #[.int .i64 0, .string ⟨#[]⟩]) 2 24 Try.underlying55 hi hz0 hz1 hz2 rfl (by decide) _ _ _ rfl (hrow.alloc _) ⟨W.heap.size, 0, none⟩ 1 1 [.int .i64 x.1, .string x.2] rfl rfl (pair_new _ _ _) (pair_one _ _) (by unfold maxLen; omega) (by omega) (by have := hB.size; simp; omega) ?_; intro v' w1 hown' hgrow _; obtain ⟨g', cap', rfl⟩ := ownsRow_succ hown'; obtain ⟨hv1, hv2, hr2, hk2, hb2⟩ := hv.appended (by decide) hrow hB.size (by omega) hown' hgrow; have hkb2 := Boxed.aside hkb (B' := w.heap.size + 1) (by decide) hrow hgrow (by omega) (u' := .slice (some ⟨g', 0, none⟩) ((dropP pre key).length + 1) cap'); have hc1 := hv1.cell; have hf1 := hv1.frozen)
      exact ⟨hk2.from _, hb2, ⟨⟨_, hv2, by rw [dropP_keep hx]; exact pair_snoc hr2, trivial⟩, hkb2⟩, hB.trans hb2⟩
  case done =>
    rintro D ys W hD rfl ⟨⟨⟨v, hv, hrow, _⟩, hkb⟩, hB⟩ hK
    have hc := hv.cell
    gi_wp2_with fail
    refine ⟨by simp, .inl ⟨_, _, rfl, run_takeDeferred hK, ?_⟩⟩
    exact ⟨_, results_tmp rfl _ _ _, v, rfl, ownsRow_putObj hrow _ hK rfl, hB.trans (belowK_b (w := w) (Nat.le_refl _) W D _ _ (by simp at hD; omega) hK rfl rfl)⟩
  case stop =>
    rintro D c pre W _ _ h _
    exact h.elim

theorem f53 (a : Option Addr) (cap : Nat) (ps : List Pr) (key : Int) (hlen : ps.length ≤ 1048576) (w : World) (hI : ArgP w.heap.size w a ps) :
    Calls Try.prog 56 #[.slice a ps.length cap, .int .i64 key] w fun e W' => ∃ v, e = .returned v ∧ W'.ownsRow w.heap.size 82 2 v (dropP ps key).length (flatP (dropP ps key)) ∧ Below w.heap.size w W' :=
  (callsIn_wide (n := 3)).1 (drop_in a cap ps key hlen w hI)

end Go.Proofs.Ytahbicegmioplaa
