/- At every two ranges, RangeMeet of the program answers as the specification's; the arguments read afterwards as they read before. No condition. -/
import Derived.Test.YtcigdckmiibgmabOP
import Derived.Test.YtcigdckmiibgmabLCM
import Derived.Test.YtcigdckmiibgmabRU
namespace Go.Proofs.Ytcigdckmiibgmab
open Go.ChangeShapes Go.WideShapes Go.ChangeAt Go.RowKit
open Go.ChangeMaps (open_string shut_string)
set_option linter.unusedVariables false

theorem walkRangeMeet (a b c d e f g h : Int) (w : World) : Calls Try.prog 5 #[rv a b c d, rv e f g h] w fun e w' => e = .returned (.bool true) ∧ Below w.heap.size w w' := by
  cases k1 : okB a b c d
  · exact law_meet a b c d e f g h _ _ _ _ _ w (fun w => c_specMeet_no1 a b c d e f g h w k1) (fun w => c_Meet_no1 a b c d e f g h w k1)
  cases k2 : okB e f g h
  · exact law_meet a b c d e f g h _ _ _ _ _ w (fun w => c_specMeet_no2 a b c d e f g h w k1 k2) (fun w => c_Meet_no2 a b c d e f g h w k1 k2)
  obtain ⟨a, b, c, d, rfl, rfl, rfl, rfl, A⟩ := ok_nat k1
  obtain ⟨e, f, g, h, rfl, rfl, rfl, rfl, B⟩ := ok_nat k2
  cases hm : meetB a b c d e f g h
  · refine law_meet a b c d e f g h _ _ _ _ _ w (fun w => c_specMeet_no3 a b c d e f g h w A B hm) (fun w => ?_)
    by_cases hc : clashN c d g h = 0
    · refine c_Meet_no4 a b c d e f g h w A B hc (fun w => ?_)
      by_cases hle : max a e ≤ min b f
      · have J := meet_ok A B hle
        have e1 : decide (max a e ≤ min b f) = true := by simpa using hle
        have e2 : (clashN c d g h == 0) = true := by simpa using hc
        rw [meetB, e2, e1] at hm
        have := c_RangeSome (max a e) (min b f) (c ||| g) (d &&& h) w J
        rw [show someN (max a e) (min b f) (c ||| g) (d &&& h) = false by simpa using hm, show ((max a e : Nat) : Int) = max (a : Int) e by omega, show ((min b f : Nat) : Int) = min (b : Int) f by omega] at this
        exact this
      · exact c_RangeSome_bad _ _ _ _ w (by simp [okB, inB]; omega)
    · exact c_Meet_no3 a b c d e f g h w A B hc
  · obtain ⟨hc, J, hs⟩ := meet_yes A B hm
    exact law_meet a b c d e f g h _ _ _ _ _ w (fun w => c_specMeet_yes a b c d e f g h w A B hm) (fun w => c_Meet_yes a b c d e f g h w A B hc J hs)

set_option maxRecDepth 100000 in
theorem rangeMeet_holds_lifted (os : Os) (started : os.Started) (H : Type) (enc : TypeId × Value → H) :
    ReturnsInHanded {} Try.checked os 5 .any (Rows.fnExactRangeMeetSpec.pre6 enc Try.prog Try.f5 Rows.fnExactRangeMeetRow.domain false) (Rows.fnExactRangeMeetSpec.post enc Try.prog Try.f5 false true false false) := by
  refine returnsInHanded_of_change (C := Try.checked) own started (by kernel_rfl) Try.func5
    (ChangeSpec.witness6 (enc := enc) (C := Try.checked) false ⟨#[], #[.agg #[.int .i64 0, .int .i64 0, .int .i64 0, .int .i64 0], .agg #[.int .i64 0, .int .i64 0, .int .i64 0, .int .i64 0]], []⟩ 8 (by kernel_rfl) (by kernel_rfl) (by kernel_rfl) (by kernel_rfl)) ?_
  intro W base args ds gs before hval0 hW hcnd _
  have hval : ∀ (j : Nat) t v, Try.f5.params[j]? = some t → args[j]? = some v → Value.okWide Try.prog W .any base t v := hval0
  have hW' := hW
  obtain ⟨p, q, hA0, hV, rfl, hfz, hnd⟩ := hW
  have hA : DataW.TrodAll enc Try.prog W 0 (fun _ => true) true Try.f5.params.toList args.toList ds p := hA0
  rw [Try.params5] at hA hval
  obtain ⟨v0, vs0, d0, ds0, p0, q0, hargs, rfl, rfl, h0, r0⟩ := trodAll_cons hA
  obtain ⟨v1, vs1, d1, ds1, p1, q1, rfl, rfl, rfl, h1, r1⟩ := trodAll_cons r0
  obtain ⟨rfl, rfl, rfl⟩ := trodAll_nil r1
  obtain rfl : args = #[v0, v1] := by cases args; simp_all
  obtain ⟨rfl, rfl⟩ := trodVars_none hV
  have k0 := h0
  have lt0 : ∀ x ∈ p0, x.block < W.heap.size := by obtain ⟨m, hm⟩ := k0; exact DataW.trod_lt m _ _ _ hm
  obtain ⟨a0, b0, c0, e0, rfl, wa0, wb0, wc0, we0⟩ := open_range (hval 0 23 v0 rfl rfl) h0
  have k1 := h1
  have lt1 : ∀ x ∈ p1, x.block < W.heap.size := by obtain ⟨m, hm⟩ := k1; exact DataW.trod_lt m _ _ _ hm
  obtain ⟨a1, b1, c1, e1, rfl, wa1, wb1, wc1, we1⟩ := open_range (hval 1 23 v1 rfl rfl) h1
  clear hA0 hval0
  refine (walkRangeMeet a0 b0 c0 e0 a1 b1 c1 e1 W).mono fun e W' ⟨he, bel⟩ => ?_
  subst he
  exact ⟨_, rfl, _, _, _, [], _, [], hW', trodAll_mk1 (shut_bool Try.underlying4 _), (trodAll_cons_mk (Below.trod laidOut (by kernel_rfl) (of_decide_eq_true (by kernel_rfl)) k0 bel lt0) (trodAll_cons_mk (Below.trod laidOut (by kernel_rfl) (of_decide_eq_true (by kernel_rfl)) k1 bel lt1) trodAll_mk0)), rfl, bel.frame _, fun h => by cases h⟩

theorem rangeMeet_holds : Rows.FnExactRangeMeetSaid :=
  OpenClaim.holds_of_wide 5 Try.f5 rfl rfl rfl rfl rfl rfl rfl ⟨rfl, rfl, rfl, rfl, rfl⟩ rfl rfl rfl rfl rfl (by kernel_rfl) Try.func5 (by kernel_rfl)
    (of_decide_eq_true (by kernel_rfl)) (by unfold Func.isWrapper; first | (rw [if_pos (by decide +kernel)]; kernel_rfl) | (rw [if_neg (by decide +kernel)]; exact ⟨rfl, rfl⟩))
    (fun os started H enc _ => rangeMeet_holds_lifted os started H enc)
#print axioms rangeMeet_holds
end Go.Proofs.Ytcigdckmiibgmab
