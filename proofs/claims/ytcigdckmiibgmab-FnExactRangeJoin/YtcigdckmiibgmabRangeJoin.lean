/- At every two ranges, RangeJoin of the program answers as the specification's; the arguments read afterwards as they read before. No condition. -/
import Derived.Test.YtcigdckmiibgmabOP
import Derived.Test.YtcigdckmiibgmabLCJ
import Derived.Test.YtcigdckmiibgmabRR
namespace Go.Proofs.Ytcigdckmiibgmab
open Go.ChangeShapes Go.WideShapes Go.ChangeAt Go.RowKit
open Go.ChangeMaps (open_string shut_string)
set_option linter.unusedVariables false

theorem walkRangeJoin (a b c d e f g h : Int) (w : World) : Calls Try.prog 6 #[rv a b c d, rv e f g h] w fun e w' => e = .returned (.bool true) ∧ Below w.heap.size w w' := by
  cases hs : (someI a b c d && someI e f g h)
  · exact law_join a b c d e f g h _ _ _ _ w (fun w => c_specJoin_no a b c d e f g h w hs) (fun w => c_Join_no a b c d e f g h w hs)
  · simp at hs
    obtain ⟨a, b, c, d, rfl, rfl, rfl, rfl, A, s1⟩ := someI_yes hs.1
    obtain ⟨e, f, g, h, rfl, rfl, rfl, rfl, B, s2⟩ := someI_yes hs.2
    obtain ⟨n, _, hn⟩ := of_some A s1
    exact law_join a b c d e f g h _ _ _ _ w (fun w => c_specJoin_yes a b c d e f g h w A B s1 s2) (fun w => c_Join_yes a b c d e f g h w A B s1 s2 hn)

set_option maxRecDepth 100000 in
theorem rangeJoin_holds_lifted (os : Os) (started : os.Started) (H : Type) (enc : TypeId × Value → H) :
    ReturnsInHanded {} Try.checked os 6 .any (Rows.fnExactRangeJoinSpec.pre6 enc Try.prog Try.f6 Rows.fnExactRangeJoinRow.domain false) (Rows.fnExactRangeJoinSpec.post enc Try.prog Try.f6 false true false false) := by
  refine returnsInHanded_of_change (C := Try.checked) own started (by kernel_rfl) Try.func6
    (ChangeSpec.witness6 (enc := enc) (C := Try.checked) false ⟨#[], #[.agg #[.int .i64 0, .int .i64 0, .int .i64 0, .int .i64 0], .agg #[.int .i64 0, .int .i64 0, .int .i64 0, .int .i64 0]], []⟩ 8 (by kernel_rfl) (by kernel_rfl) (by kernel_rfl) (by kernel_rfl)) ?_
  intro W base args ds gs before hval0 hW hcnd _
  have hval : ∀ (j : Nat) t v, Try.f6.params[j]? = some t → args[j]? = some v → Value.okWide Try.prog W .any base t v := hval0
  have hW' := hW
  obtain ⟨p, q, hA0, hV, rfl, hfz, hnd⟩ := hW
  have hA : DataW.TrodAll enc Try.prog W 0 (fun _ => true) true Try.f6.params.toList args.toList ds p := hA0
  rw [Try.params6] at hA hval
  obtain ⟨v0, vs0, d0, ds0, p0, q0, hargs, rfl, rfl, h0, r0⟩ := trodAll_cons hA
  obtain ⟨v1, vs1, d1, ds1, p1, q1, rfl, rfl, rfl, h1, r1⟩ := trodAll_cons r0
  obtain ⟨rfl, rfl, rfl⟩ := trodAll_nil r1
  obtain rfl : args = #[v0, v1] := by cases args; simp_all
  obtain ⟨rfl, rfl⟩ := trodVars_none hV
  have k0 := h0
  have lt0 : ∀ x ∈ p0, x.block < W.heap.size := by obtain ⟨m, hm⟩ := k0; exact DataW.trod_lt m _ _ _ hm
  obtain ⟨a0, b0, c0, e0, rfl, wa0, wb0, wc0, we0⟩ := open_range (hval 0 23 v0 rfl rfl) h0
  have k1 := h1
  have lt1 : ∀ x ∈ p1, x.block < W.heap.size := by obtain ⟨m, hm⟩ := k1; exact DataW.trod_lt m _ _ _ hm
  obtain ⟨a1, b1, c1, e1, rfl, wa1, wb1, wc1, we1⟩ := open_range (hval 1 23 v1 rfl rfl) h1
  clear hA0 hval0
  refine (walkRangeJoin a0 b0 c0 e0 a1 b1 c1 e1 W).mono fun e W' ⟨he, bel⟩ => ?_
  subst he
  exact ⟨_, rfl, _, _, _, [], _, [], hW', trodAll_mk1 (shut_bool Try.underlying4 _), (trodAll_cons_mk (Below.trod laidOut (by kernel_rfl) (of_decide_eq_true (by kernel_rfl)) k0 bel lt0) (trodAll_cons_mk (Below.trod laidOut (by kernel_rfl) (of_decide_eq_true (by kernel_rfl)) k1 bel lt1) trodAll_mk0)), rfl, bel.frame _, fun h => by cases h⟩

theorem rangeJoin_holds : Rows.FnExactRangeJoinSaid :=
  OpenClaim.holds_of_wide 6 Try.f6 rfl rfl rfl rfl rfl rfl rfl ⟨rfl, rfl, rfl, rfl, rfl⟩ rfl rfl rfl rfl rfl (by kernel_rfl) Try.func6 (by kernel_rfl)
    (of_decide_eq_true (by kernel_rfl)) (by unfold Func.isWrapper; first | (rw [if_pos (by decide +kernel)]; kernel_rfl) | (rw [if_neg (by decide +kernel)]; exact ⟨rfl, rfl⟩))
    (fun os started H enc _ => rangeJoin_holds_lifted os started H enc)
#print axioms rangeJoin_holds
end Go.Proofs.Ytcigdckmiibgmab
