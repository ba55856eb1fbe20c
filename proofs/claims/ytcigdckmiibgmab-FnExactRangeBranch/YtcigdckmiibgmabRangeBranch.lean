/- At every op, two ranges and a bool, RangeBranch of the program answers as the specification's; the arguments read afterwards as they read before. No condition. -/
import Derived.Test.YtcigdckmiibgmabOP
import Derived.Test.YtcigdckmiibgmabLCB
import Derived.Test.YtcigdckmiibgmabBJ
namespace Go.Proofs.Ytcigdckmiibgmab
open Go.ChangeShapes Go.WideShapes Go.ChangeAt Go.RowKit
open Go.ChangeMaps (open_string shut_string)
set_option linter.unusedVariables false

theorem walkRangeBranch (op a b c d e f g h : Int) (hl : Bool) (w : World) : Calls Try.prog 8 #[.int .i64 op, rv a b c d, rv e f g h, .bool hl] w fun e w' => e = .returned (.bool true) ∧ Below w.heap.size w w' := by
  cases hop : inB op 12 15
  · exact law_branch op a b c d e f g h _ _ _ _ _ _ _ _ hl _ w (fun w => w_SBr_no1 op a b c d e f g h hl w hop) (fun w => w_Br_no1 op a b c d e f g h hl w hop)
  cases k1 : okB a b c d
  · exact law_branch op a b c d e f g h _ _ _ _ _ _ _ _ hl _ w (fun w => w_SBr_no2 op a b c d e f g h hl w hop k1) (fun w => w_Br_no2 op a b c d e f g h hl w hop (someI_bad k1))
  cases k2 : okB e f g h
  · refine law_branch op a b c d e f g h _ _ _ _ _ _ _ _ hl _ w (fun w => w_SBr_no3 op a b c d e f g h hl w hop k1 k2) (fun w => ?_)
    cases s1 : someI a b c d
    · exact w_Br_no2 op a b c d e f g h hl w hop s1
    · exact w_Br_no3 op a b c d e f g h hl w hop s1 (someI_bad k2)
  obtain ⟨a, b, c, d, rfl, rfl, rfl, rfl, A⟩ := ok_nat k1
  obtain ⟨e, f, g, h, rfl, rfl, rfl, rfl, B⟩ := ok_nat k2
  cases s1 : someN a b c d
  · exact law_branch op a b c d e f g h _ _ _ _ _ _ _ _ hl _ w (fun w => w_SBr_no4 op a b c d e f g h hl w hop A B s1) (fun w => w_Br_no2 op a b c d e f g h hl w hop (by rw [someI_nat A]; exact s1))
  cases s2 : someN e f g h
  · exact law_branch op a b c d e f g h _ _ _ _ _ _ _ _ hl _ w (fun w => w_SBr_no5 op a b c d e f g h hl w hop A B s1 s2) (fun w => w_Br_no3 op a b c d e f g h hl w hop (by rw [someI_nat A]; exact s1) (by rw [someI_nat B]; exact s2))
  obtain ⟨n, _, hn⟩ := of_some A s1
  obtain ⟨m, _, hm⟩ := of_some B s2
  have i1 : someI a b c d = true := by rw [someI_nat A]; exact s1
  have i2 : someI e f g h = true := by rw [someI_nat B]; exact s2
  obtain ⟨P, P', R, R', q, hs, hp, hq⟩ := both_all op hop hl _ _ _ _ _ _ _ _ (tidy_ok A hn) (tidy_ok B hm) (some_of (tidy_ok A hn) (tidy_of A hn)) (some_of (tidy_ok B hm) (tidy_of B hm))
  refine law_branch op a b c d e f g h _ _ _ _ _ _ _ _ hl q w (fun w => w_SBr_yes op a b c d e f g h hl _ _ _ _ _ _ _ _ _ _ _ _ _ _ _ _ q w hop A B s1 s2 (fun w => c_l2Tidy a b c d w A) (fun w => c_l2Tidy e f g h w B) hs) (fun w => ?_)
  rcases hq with ⟨rfl, rfl, rfl, r1, r2⟩ | ⟨rfl, rfl, rfl, r⟩
  · exact w_Br_yes op a b c d e f g h hl _ _ _ _ _ _ _ _ _ _ _ _ _ _ _ _ w hop i1 i2 (fun w => c_RangeTidy a b c d w A s1) (fun w => c_RangeTidy e f g h w B s2) hp r1 r2
  · cases r1 : someP R
    · exact w_Br_no4 op a b c d e f g h hl _ _ _ _ _ _ _ _ _ _ _ _ _ _ _ _ w hop i1 i2 (fun w => c_RangeTidy a b c d w A s1) (fun w => c_RangeTidy e f g h w B s2) hp r1
    · rw [r1, Bool.true_and] at r
      exact w_Br_no5 op a b c d e f g h hl _ _ _ _ _ _ _ _ _ _ _ _ _ _ _ _ w hop i1 i2 (fun w => c_RangeTidy a b c d w A s1) (fun w => c_RangeTidy e f g h w B s2) hp r1 r

set_option maxRecDepth 100000 in
theorem rangeBranch_holds_lifted (os : Os) (started : os.Started) (H : Type) (enc : TypeId × Value → H) :
    ReturnsInHanded {} Try.checked os 8 .any (Rows.fnExactRangeBranchSpec.pre6 enc Try.prog Try.f8 Rows.fnExactRangeBranchRow.domain false) (Rows.fnExactRangeBranchSpec.post enc Try.prog Try.f8 false true false false) := by
  refine returnsInHanded_of_change (C := Try.checked) own started (by kernel_rfl) Try.func8
    (ChangeSpec.witness6 (enc := enc) (C := Try.checked) false ⟨#[], #[.int .i64 0, .agg #[.int .i64 0, .int .i64 0, .int .i64 0, .int .i64 0], .agg #[.int .i64 0, .int .i64 0, .int .i64 0, .int .i64 0], .bool false], []⟩ 8 (by kernel_rfl) (by kernel_rfl) (by kernel_rfl) (by kernel_rfl)) ?_
  intro W base args ds gs before hval0 hW hcnd _
  have hval : ∀ (j : Nat) t v, Try.f8.params[j]? = some t → args[j]? = some v → Value.okWide Try.prog W .any base t v := hval0
  have hW' := hW
  obtain ⟨p, q, hA0, hV, rfl, hfz, hnd⟩ := hW
  have hA : DataW.TrodAll enc Try.prog W 0 (fun _ => true) true Try.f8.params.toList args.toList ds p := hA0
  rw [Try.params8] at hA hval
  obtain ⟨v0, vs0, d0, ds0, p0, q0, hargs, rfl, rfl, h0, r0⟩ := trodAll_cons hA
  obtain ⟨v1, vs1, d1, ds1, p1, q1, rfl, rfl, rfl, h1, r1⟩ := trodAll_cons r0
  obtain ⟨v2, vs2, d2, ds2, p2, q2, rfl, rfl, rfl, h2, r2⟩ := trodAll_cons r1
  obtain ⟨v3, vs3, d3, ds3, p3, q3, rfl, rfl, rfl, h3, r3⟩ := trodAll_cons r2
  obtain ⟨rfl, rfl, rfl⟩ := trodAll_nil r3
  obtain rfl : args = #[v0, v1, v2, v3] := by cases args; simp_all
  obtain ⟨rfl, rfl⟩ := trodVars_none hV
  obtain ⟨a0, rfl, rfl, rfl, w0⟩ := open_int Try.underlying3 (hval 0 3 v0 rfl rfl) h0
  have k1 := h1
  have lt1 : ∀ x ∈ p1, x.block < W.heap.size := by obtain ⟨m, hm⟩ := k1; exact DataW.trod_lt m _ _ _ hm
  obtain ⟨a1, b1, c1, e1, rfl, wa1, wb1, wc1, we1⟩ := open_range (hval 1 23 v1 rfl rfl) h1
  have k2 := h2
  have lt2 : ∀ x ∈ p2, x.block < W.heap.size := by obtain ⟨m, hm⟩ := k2; exact DataW.trod_lt m _ _ _ hm
  obtain ⟨a2, b2, c2, e2, rfl, wa2, wb2, wc2, we2⟩ := open_range (hval 2 23 v2 rfl rfl) h2
  obtain ⟨a3, rfl, rfl, rfl⟩ := open_bool Try.underlying4 (hval 3 4 v3 rfl rfl) h3
  clear hA0 hval0
  refine (walkRangeBranch a0 a1 b1 c1 e1 a2 b2 c2 e2 a3 W).mono fun e W' ⟨he, bel⟩ => ?_
  subst he
  exact ⟨_, rfl, _, _, _, [], _, [], hW', trodAll_mk1 (shut_bool Try.underlying4 _), (trodAll_cons_mk (shut_int Try.underlying3 w0) (trodAll_cons_mk (Below.trod laidOut (by kernel_rfl) (of_decide_eq_true (by kernel_rfl)) k1 bel lt1) (trodAll_cons_mk (Below.trod laidOut (by kernel_rfl) (of_decide_eq_true (by kernel_rfl)) k2 bel lt2) (trodAll_cons_mk (shut_bool Try.underlying4 a3) trodAll_mk0)))), rfl, bel.frame _, fun h => by cases h⟩

theorem rangeBranch_holds : Rows.FnExactRangeBranchSaid :=
  OpenClaim.holds_of_wide 8 Try.f8 rfl rfl rfl rfl rfl rfl rfl ⟨rfl, rfl, rfl, rfl, rfl⟩ rfl rfl rfl rfl rfl (by kernel_rfl) Try.func8 (by kernel_rfl)
    (of_decide_eq_true (by kernel_rfl)) (by unfold Func.isWrapper; first | (rw [if_pos (by decide +kernel)]; kernel_rfl) | (rw [if_neg (by decide +kernel)]; exact ⟨rfl, rfl⟩))
    (fun os started H enc _ => rangeBranch_holds_lifted os started H enc)
#print axioms rangeBranch_holds
end Go.Proofs.Ytcigdckmiibgmab
