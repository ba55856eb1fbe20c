/- At every op and two numbers, RangeDo of the program answers as the specification's; the arguments read afterwards as they read before. No condition. -/
import Derived.Test.YtcigdckmiibgmaaOP
import Derived.Test.YtcigdckmiibgmaaDQ
namespace Go.Proofs.Ytcigdckmiibgmaa
open Go.ChangeShapes Go.WideShapes Go.ChangeAt Go.RowKit
open Go.ChangeMaps (open_string shut_string)
set_option linter.unusedVariables false

theorem walkRangeDo (op a b : Int) (w : World) : Calls Try.prog 3 #[.int .i64 op, .int .i64 a, .int .i64 b] w fun e w' => e = .returned (.bool true) ∧ Below w.heap.size w w' := by
  cases h : inB op 1 11
  · exact law_do op a b _ w (fun w => c_specDo_no1 op a b w h) (fun w => c_Do_no1 op a b w h)
  cases h2 : (inB a 0 4294967295 && inB b 0 4294967295)
  · exact law_do op a b _ w (fun w => c_specDo_no2 op a b w h h2) (fun w => c_Do_no2 op a b w h h2)
  obtain ⟨a, b, rfl, rfl, ha, hb⟩ := nums h2
  have hn : 1 ≤ op ∧ op ≤ 11 := by simp [inB] at h; omega
  rcases (by omega : op = 1 ∨ op = 2 ∨ op = 3 ∨ op = 4 ∨ op = 5 ∨ op = 6 ∨ op = 7 ∨ op = 8 ∨ op = 9 ∨ op = 10 ∨ op = 11) with rfl | rfl | rfl | rfl | rfl | rfl | rfl | rfl | rfl | rfl | rfl
  · exact law_do 1 a b _ w (fun w => c_specDo_yes 1 _ a b w h ha hb (fun w => c_l2Do_1 a b w ha hb)) (fun w => c_Do_1 a b w ha hb)
  · exact law_do 2 a b _ w (fun w => c_specDo_yes 2 _ a b w h ha hb (fun w => c_l2Do_2 a b w ha hb)) (fun w => c_Do_2 a b w ha hb)
  · exact law_do 3 a b _ w (fun w => c_specDo_yes 3 _ a b w h ha hb (fun w => c_l2Do_3 a b w ha hb)) (fun w => c_Do_3 a b w ha hb)
  · exact law_do 4 a b _ w (fun w => c_specDo_yes 4 _ a b w h ha hb (fun w => c_l2Do_4 a b w ha hb)) (fun w => c_Do_4 a b w ha hb)
  · exact law_do 5 a b _ w (fun w => c_specDo_yes 5 _ a b w h ha hb (fun w => c_l2Do_5 a b w ha hb)) (fun w => c_Do_5 a b w ha hb)
  · exact law_do 6 a b _ w (fun w => c_specDo_yes 6 _ a b w h ha hb (fun w => c_l2Do_6 a b w ha hb)) (fun w => c_Do_6 a b w ha hb)
  · exact law_do 7 a b _ w (fun w => c_specDo_yes 7 _ a b w h ha hb (fun w => c_l2Do_7 a b w ha hb)) (fun w => c_Do_7 a b w ha hb)
  · exact law_do 8 a b _ w (fun w => c_specDo_yes 8 _ a b w h ha hb (fun w => c_l2Do_8 a b w ha hb)) (fun w => c_Do_8 a b w ha hb)
  · exact law_do 9 a b _ w (fun w => c_specDo_yes 9 _ a b w h ha hb (fun w => c_l2Do_9 a b w ha hb)) (fun w => c_Do_9 a b w ha hb)
  · exact law_do 10 a b _ w (fun w => c_specDo_yes 10 _ a b w h ha hb (fun w => c_l2Do_10 a b w ha hb)) (fun w => c_Do_10 a b w ha hb)
  · exact law_do 11 a b _ w (fun w => c_specDo_yes 11 _ a b w h ha hb (fun w => c_l2Do_11 a b w ha hb)) (fun w => c_Do_11 a b w ha hb)

set_option maxRecDepth 100000 in
theorem rangeDo_holds_lifted (os : Os) (started : os.Started) (H : Type) (enc : TypeId × Value → H) :
    ReturnsInHanded {} Try.checked os 3 .any (Rows.fnExactRangeDoSpec.pre6 enc Try.prog Try.f3 Rows.fnExactRangeDoRow.domain false) (Rows.fnExactRangeDoSpec.post enc Try.prog Try.f3 false true false false) := by
  refine returnsInHanded_of_change (C := Try.checked) own started (by kernel_rfl) Try.func3
    (ChangeSpec.witness6 (enc := enc) (C := Try.checked) false ⟨#[], #[.int .i64 0, .int .i64 0, .int .i64 0], []⟩ 8 (by kernel_rfl) (by kernel_rfl) (by kernel_rfl) (by kernel_rfl)) ?_
  intro W base args ds gs before hval0 hW hcnd _
  have hval : ∀ (j : Nat) t v, Try.f3.params[j]? = some t → args[j]? = some v → Value.okWide Try.prog W .any base t v := hval0
  have hW' := hW
  obtain ⟨p, q, hA0, hV, rfl, hfz, hnd⟩ := hW
  have hA : DataW.TrodAll enc Try.prog W 0 (fun _ => true) true Try.f3.params.toList args.toList ds p := hA0
  rw [Try.params3] at hA hval
  obtain ⟨v0, vs0, d0, ds0, p0, q0, hargs, rfl, rfl, h0, r0⟩ := trodAll_cons hA
  obtain ⟨v1, vs1, d1, ds1, p1, q1, rfl, rfl, rfl, h1, r1⟩ := trodAll_cons r0
  obtain ⟨v2, vs2, d2, ds2, p2, q2, rfl, rfl, rfl, h2, r2⟩ := trodAll_cons r1
  obtain ⟨rfl, rfl, rfl⟩ := trodAll_nil r2
  obtain rfl : args = #[v0, v1, v2] := by cases args; simp_all
  obtain ⟨rfl, rfl⟩ := trodVars_none hV
  obtain ⟨a0, rfl, rfl, rfl, w0⟩ := open_int Try.underlying3 (hval 0 3 v0 rfl rfl) h0
  obtain ⟨a1, rfl, rfl, rfl, w1⟩ := open_int Try.underlying3 (hval 1 3 v1 rfl rfl) h1
  obtain ⟨a2, rfl, rfl, rfl, w2⟩ := open_int Try.underlying3 (hval 2 3 v2 rfl rfl) h2
  clear hA0 hval0
  refine (walkRangeDo a0 a1 a2 W).mono fun e W' ⟨he, bel⟩ => ?_
  subst he
  exact ⟨_, rfl, _, _, _, [], _, [], hW', trodAll_mk1 (shut_bool Try.underlying4 _), (trodAll_cons_mk (shut_int Try.underlying3 w0) (trodAll_cons_mk (shut_int Try.underlying3 w1) (trodAll_cons_mk (shut_int Try.underlying3 w2) trodAll_mk0))), rfl, bel.frame _, fun h => by cases h⟩

theorem rangeDo_holds : Rows.FnExactRangeDoSaid :=
  OpenClaim.holds_of_wide 3 Try.f3 rfl rfl rfl rfl rfl rfl rfl ⟨rfl, rfl, rfl, rfl, rfl⟩ rfl rfl rfl rfl rfl (by kernel_rfl) Try.func3 (by kernel_rfl)
    (of_decide_eq_true (by kernel_rfl)) (by unfold Func.isWrapper; first | (rw [if_pos (by decide +kernel)]; kernel_rfl) | (rw [if_neg (by decide +kernel)]; exact ⟨rfl, rfl⟩))
    (fun os started H enc _ => rangeDo_holds_lifted os started H enc)
#print axioms rangeDo_holds
end Go.Proofs.Ytcigdckmiibgmaa
