/- The list of pairs with a key put. -/
import Derived.RangeFuncNested
import Derived.RangeFuncBound
import Derived.RangeFuncCalls
import Derived.RangeFuncLeaves
import Derived.RangeFuncBox
import Derived.Shelf.Abstract
import Derived.WalkKit
import Derived.OwnWalkIn
import Derived.TacticsInMore
import Derived.LoopNIn
import Derived.LoopIn
import Derived.Test.YtahbicegmioplaaTW
namespace Go.Proofs.Ytahbicegmioplaa
open Go.RowKit Go.Shelf
set_option linter.unusedSimpArgs false
set_option linter.unusedVariables false
attribute [local go_sem] Oper.semAt_some

theorem pair_newE (W : World) (B : Nat) (x : Int) (y : ByteArray) (hB : B = W.heap.size) : ∀ j u, [Value.int .i64 x, .string y][j]? = some u → (W.alloc (.cells #[.int .i64 x, .string y] 82)).cell? ((⟨B, 0, none⟩ : Addr).add j) = some u := by subst hB; exact newsP_at W (x, y)
def putO (ps : List Pr) (key : Int) (val : ByteArray) : List Pr := ps.map fun x => if x.1 == key then (x.1, val) else (x.1, x.2)
def anyK (ps : List Pr) (key : Int) : Bool := ps.any fun x => x.1 == key
def putP (ps : List Pr) (key : Int) (val : ByteArray) : List Pr := if anyK ps key = true then putO ps key val else putO ps key val ++ [(key, val)]
theorem putO_length (ps : List Pr) (key : Int) (val : ByteArray) : (putO ps key val).length = ps.length := by simp [putO]
theorem putO_hit {pre : List Pr} {x : Pr} {key : Int} (val : ByteArray) (h : (x.1 == key) = true) : putO (pre ++ [x]) key val = putO pre key val ++ [(x.1, val)] := by simp [putO] at *; simp [h]
theorem putO_miss {pre : List Pr} {x : Pr} {key : Int} (val : ByteArray) (h : (x.1 == key) = false) : putO (pre ++ [x]) key val = putO pre key val ++ [(x.1, x.2)] := by simp [putO] at *; simp [h]
theorem anyK_hit {pre : List Pr} {x : Pr} {key : Int} (h : (x.1 == key) = true) : anyK (pre ++ [x]) key = true := by simp [anyK] at *; simp [h]
theorem anyK_miss {pre : List Pr} {x : Pr} {key : Int} (h : (x.1 == key) = false) : anyK (pre ++ [x]) key = anyK pre key := by simp [anyK] at *; simp [h]

set_option maxRecDepth 100000 in
set_option maxHeartbeats 4000000 in
theorem put_in (a : Option Addr) (cap : Nat) (ps : List Pr) (key : Int) (val : ByteArray) (hlen : ps.length ≤ 1048576) (w : World) (hI : ArgP w.heap.size w a ps) :
    CallsIn Fence.wide 3 Try.prog 35 #[.slice a ps.length cap, .int .i64 key, .string val] w fun e W' => ∃ v, e = .returned v ∧ W'.ownsRow w.heap.size 82 2 v (putP ps key val).length (flatP (putP ps key val)) ∧ Below w.heap.size w W' := by
  obtain ⟨i0, hi, hz0, hz1, hz2⟩ := info_parts info69
  have hro : Fence.wide.round = none := rfl
  refine callsIn_of_wp_marks Try.func35 rfl trivial ?_ hro
  simp only [Try.ntmps35, List.size_toArray, List.length_cons, List.length_nil, Nat.reduceAdd, Nat.reduceSub, Array.replicate_succ, Array.replicate_zero, List.push_toArray, List.append_toArray, List.nil_append, List.cons_append]
  gi_wp2_with fail
  refine ⟨trivial, (all_in Fence.wide 2 trivial hro _ _ _ _).mono ?_⟩
  rintro e w' ⟨rfl, rfl⟩
  gi_wp2_with fail
  have bK := Boxed.new w 3 (.int .i64 key)
  have bV := Boxed.new (w.alloc (.cells #[.int .i64 key] 3)) 9 (.string val)
  have bO := Boxed.new ((w.alloc (.cells #[.int .i64 key] 3)).alloc (.cells #[.string val] 9)) 55 (.slice none 0 0)
  have bT := Boxed.new (((w.alloc (.cells #[.int .i64 key] 3)).alloc (.cells #[.string val] 9)).alloc (.cells #[.slice none 0 0] 55)) 4 (.bool false)
  have bN := Boxed.new ((((w.alloc (.cells #[.int .i64 key] 3)).alloc (.cells #[.string val] 9)).alloc (.cells #[.slice none 0 0] 55)).alloc (.cells #[.bool false] 4)) 55 (.slice a ps.length cap)
  simp only [World.size_alloc] at bV bO bT bN
  have hB0 : Below w.heap.size w (((((w.alloc (.cells #[.int .i64 key] 3)).alloc (.cells #[.string val] 9)).alloc (.cells #[.slice none 0 0] 55)).alloc (.cells #[.bool false] 4)).alloc (.cells #[.slice a ps.length cap] 55)) := (((((Below.refl _ w).alloc (Nat.le_refl _) _).alloc (by simp) _).alloc (by simp; omega) _).alloc (by simp; omega) _).alloc (by simp; omega) _
  refine wpIn_rangeFunc_ownG (n := 3) hro (show 1 ≤ 3 by omega) (gf := 76) (lb := #[.pointer (some ⟨w.heap.size + 1 + 1 + 1 + 1, 0, none⟩)]) rfl trivial (enters_of Try.func76 (by kernel_rfl) rfl)
    (all_stops Fence.wide 2 trivial hro (by omega) (w.heap.size + 1 + 1 + 1 + 1) w.heap.size a cap ps hlen _ (by simp) (by simp; omega) bN.cell (hI.below hB0)) belowK_t (belowK_b (by simp; omega)) (Below.refl _ _) (fun _ => rfl)
    (fun pre W => ((∃ v, Boxed W (w.heap.size + 1 + 1) 55 v ∧ W.ownsRow w.heap.size 82 2 v (putO pre key val).length (flatP (putO pre key val)) ∧ True) ∧ Boxed W w.heap.size 3 (.int .i64 key) ∧ Boxed W (w.heap.size + 1) 9 (.string val) ∧ Boxed W (w.heap.size + 1 + 1 + 1) 4 (.bool (anyK pre key))) ∧ Below w.heap.size w W)
    (fun _ _ _ => False)
    (OwnFrom.and (OwnFrom.and (Own.from (holdsRow_own w.heap.size (w.heap.size + 1 + 1) 55 82 2 (fun pre => (putO pre key val).length) (fun pre => flatP (putO pre key val)) (fun _ _ => True)) _) (OwnFrom.and (Own.from (boxed_own _ _ (fun _ => .int .i64 key)) _) (OwnFrom.and (Own.from (boxed_own _ _ (fun _ => .string val)) _) (Own.from (boxed_own _ _ (fun pre => .bool (anyK pre key))) _)))) (ownFrom_below (Nat.le_refl _) (by simp; omega)))
    (fun _ _ _ _ _ hs _ _ => hs)
    ⟨⟨⟨_, (bO.alloc _).alloc _, World.ownsRow_nil _ _ _ _, trivial⟩, (((bK.alloc _).alloc _).alloc _).alloc _, ((bV.alloc _).alloc _).alloc _, bT.alloc _⟩, hB0⟩
    (fun x => { tmps := #[.slice a ps.length cap, .int .i64 key, .string val, undef, .pointer (some ⟨w.heap.size, 0, none⟩), .pointer (some ⟨w.heap.size + 1, 0, none⟩), .slice none 0 0, .pointer (some ⟨w.heap.size + 1 + 1, 0, none⟩), .pointer (some ⟨w.heap.size + 1 + 1 + 1, 0, none⟩), .int .i64 x.1, .string x.2, .slice a ps.length cap, .func (.func 76) #[] #[.pointer (some ⟨w.heap.size + 1 + 1 + 1 + 1, 0, none⟩)], .int .i64 x.1, .string x.2, undef, undef, undef, undef, undef, undef, undef, undef, undef, undef, undef, undef, undef, undef, undef, undef, undef, undef, undef], defers := [] }) ?assign ?body ?done ?stop
  case assign =>
    intro l x W K hK
    gi_wp2
    exact hK
  case body =>
    rintro l pre x W ⟨⟨⟨v, hv, hrow, _⟩, hkb, hvb, htb⟩, hB⟩ hlt
    have hck := hkb.cell
    have hcv := hvb.cell
    have hct := htb.cell
    have hft := htb.frozen
    have hc := hv.cell
    have hpl : (putO pre key val).length ≤ 1048576 := by rw [putO_length]; omega
    cases hx : (x.1 == key)
    · gi_wp2_with (gi_at_builtin; refine wpListIn_append_own _ rfl _ _ 55 rfl w.heap.size 82 i0 (.agg #[.int .i64 0, .string ⟨#[]⟩]) 2 24 Try.underlying55 hi hz0 hz1 hz2 rfl (by decide) _ _ _ rfl (World.ownsRow.alloc hrow _) ⟨W.heap.size, 0, none⟩ 1 1 [.int .i64 x.1, .string x.2] rfl rfl (pair_newE _ _ _ _ (by simp)) (pair_one _ _) (by unfold maxLen; omega) (by omega) (by have := hB.size; simp; omega) ?_; intro v' w1 hown' hgrow _; obtain ⟨g', cap', rfl⟩ := ownsRow_succ hown'; obtain ⟨hv1, hv2, hr2, hk2, hb2⟩ := Boxed.appended hv (by decide) hrow hB.size (by omega) hown' hgrow; have hc1 := hv1.cell; have hf1 := hv1.frozen)
      refine ⟨hk2.from _, hb2, ⟨⟨_, hv2, by rw [putO_miss val hx]; exact pair_snoc hr2, trivial⟩, Boxed.aside hkb (by decide) hrow hgrow (by omega), Boxed.aside hvb (by decide) hrow hgrow (by omega), by rw [anyK_miss hx]; exact Boxed.aside htb (by decide) hrow hgrow (by omega)⟩, hB.trans hb2⟩
    · have hv0 := Boxed.set_other (B' := w.heap.size + 1 + 1 + 1) hv (.bool true) (by omega)
      have hkb0 := Boxed.set_other (B' := w.heap.size + 1 + 1 + 1) hkb (.bool true) (by omega)
      have hvb0 := Boxed.set_other (B' := w.heap.size + 1 + 1 + 1) hvb (.bool true) (by omega)
      have htb0 := Boxed.set (.bool true) htb
      have hrow0 := row_set htb (by decide) hrow (.bool true)
      have hB1 : Below w.heap.size W (W.setCell ⟨w.heap.size + 1 + 1 + 1, 0, none⟩ (.bool true)) := (Below.refl _ _).setCell (by simp; omega) _
      have hc0 := hv0.cell
      have hcv0 := hvb0.cell
      gi_wp2_with (gi_at_builtin; refine wpListIn_append_own _ rfl _ _ 55 rfl w.heap.size 82 i0 (.agg #[.int .i64 0, .string ⟨#[]⟩]) 2 24 Try.underlying55 hi hz0 hz1 hz2 rfl (by decide) _ _ _ rfl (World.ownsRow.alloc hrow0 _) ⟨W.heap.size, 0, none⟩ 1 1 [.int .i64 x.1, .string val] rfl rfl (pair_newE _ _ _ _ (by simp)) (pair_one _ _) (by unfold maxLen; omega) (by omega) (by have := hB.size; simp; omega) ?_; intro v' w1 hown' hgrow _; obtain ⟨g', cap', rfl⟩ := ownsRow_succ hown'; obtain ⟨hv1, hv2, hr2, hk2, hb2⟩ := Boxed.appended hv0 (by decide) hrow0 (by have := hB.size; simp; omega) (by omega) hown' hgrow; have hc1 := hv1.cell; have hf1 := hv1.frozen)
      refine ⟨((KeepsOthers.setCell _ _ _).trans hk2).from _, hB1.trans hb2, ⟨⟨_, hv2, by rw [putO_hit val hx]; exact pair_snoc hr2, trivial⟩, Boxed.aside hkb0 (by decide) hrow0 hgrow (by omega), Boxed.aside hvb0 (by decide) hrow0 hgrow (by omega), by rw [anyK_hit hx]; exact Boxed.aside htb0 (by decide) hrow0 hgrow (by omega)⟩, (hB.trans hB1).trans hb2⟩
  case done =>
    rintro D ys W hD rfl ⟨⟨⟨v, hv, hrow, _⟩, hkb, hvb, htb⟩, hB⟩ hK
    have hck := hkb.cell
    have hcv := hvb.cell
    have hct := htb.cell
    have hc := hv.cell
    have hpl : (putO ys key val).length ≤ 1048576 := by rw [putO_length]; omega
    cases hany : anyK ys key
    · rw [hany] at hct
      gi_wp2_with (gi_at_builtin; refine wpListIn_append_own _ rfl _ _ 55 rfl w.heap.size 82 i0 (.agg #[.int .i64 0, .string ⟨#[]⟩]) 2 24 Try.underlying55 hi hz0 hz1 hz2 rfl (by decide) _ _ _ rfl (World.ownsRow.alloc hrow _) ⟨W.heap.size, 0, none⟩ 1 1 [.int .i64 key, .string val] rfl rfl (pair_newE _ _ _ _ (by simp)) (pair_one _ _) (by unfold maxLen; omega) (by omega) (by have := hB.size; simp; omega) ?_; intro v' w1 hown' hgrow _; obtain ⟨g', cap', rfl⟩ := ownsRow_succ hown'; obtain ⟨hv1, hv2, hr2, hk2, hb2⟩ := Boxed.appended hv (by decide) hrow hB.size (by omega) hown' hgrow; have hc1 := hv1.cell; have hf1 := hv1.frozen; have hc2 := hv2.cell)
      have hK' := hk2.same D _ hK rfl
      refine ⟨by simp, .inl ⟨_, _, rfl, run_takeDeferred hK', ?_⟩⟩
      exact ⟨_, results_tmp rfl _ _ _, _, rfl, by unfold putP; rw [hany, if_neg (by simp)]; exact ownsRow_putObj (pair_snoc hr2) _ hK' rfl, (hB.trans hb2).trans (belowK_b (w := w) (Nat.le_refl _) _ D _ _ (by simp at hD; omega) hK' rfl rfl)⟩
    · rw [hany] at hct
      gi_wp2_with fail
      refine ⟨by simp, .inl ⟨_, _, rfl, run_takeDeferred hK, ?_⟩⟩
      exact ⟨_, results_tmp rfl _ _ _, v, rfl, by unfold putP; rw [hany, if_pos rfl]; exact ownsRow_putObj hrow _ hK rfl, hB.trans (belowK_b (w := w) (Nat.le_refl _) W D _ _ (by simp at hD; omega) hK rfl rfl)⟩
  case stop =>
    rintro D c pre W _ _ h _
    exact h.elim

theorem f38 (a : Option Addr) (cap : Nat) (ps : List Pr) (key : Int) (val : ByteArray) (hlen : ps.length ≤ 1048576) (w : World) (hI : ArgP w.heap.size w a ps) :
    Calls Try.prog 35 #[.slice a ps.length cap, .int .i64 key, .string val] w fun e W' => ∃ v, e = .returned v ∧ W'.ownsRow w.heap.size 82 2 v (putP ps key val).length (flatP (putP ps key val)) ∧ Below w.heap.size w W' :=
  (callsIn_wide (n := 3)).1 (put_in a cap ps key val hlen w hI)

end Go.Proofs.Ytahbicegmioplaa
