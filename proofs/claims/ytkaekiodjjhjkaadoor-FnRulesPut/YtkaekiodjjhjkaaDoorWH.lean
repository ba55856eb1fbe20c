/- Rules' lines, read back. -/
import Derived.Test.YtkaekiodjjhjkaaDoorWM
import Derived.Test.YtkaekiodjjhjkaaDoorWG
namespace Go.Proofs.YtkaekiodjjhjkaaDoor
open Go.RowKit
set_option linter.unusedVariables false
set_option linter.unusedSimpArgs false
theorem eqT (a b : ByteArray) : (a.toList == b.toList) = decide (tl a = tl b) := by
  rw [Lib.toList_data, Lib.toList_data]
  by_cases h : tl a = tl b
  · rw [decide_eq_true h]; exact beq_iff_eq.2 h
  · rw [decide_eq_false h]; exact beq_eq_false_iff_ne.2 h
theorem words_apart : ∀ k, k < 21 → ∀ j, j < k → ¬ tl (wordS j) = tl (wordS k) := by decide +kernel
theorem verbs_apart : ∀ k, k < 3 → ∀ j, j < k → ¬ tl (verbS j) = tl (verbS k) := by decide +kernel
theorem no_word : ∀ k, k < 21 → (32 : UInt8) ∉ tl (wordS k) ∧ (10 : UInt8) ∉ tl (wordS k) := by decide +kernel
theorem no_verb : ∀ k, k < 3 → (32 : UInt8) ∉ tl (verbS k) ∧ (10 : UInt8) ∉ tl (verbS k) := by decide +kernel
theorem find_word (k : Nat) (hk : k < 21) : findM wordS 21 (wordS k) = (k : Int) :=
  findM_hit hk (by rw [eqT, decide_eq_true rfl]) fun j hj => by rw [eqT, decide_eq_false (words_apart k hk j hj)]
theorem find_verb (k : Nat) (hk : k < 3) : findM verbS 3 (verbS k) = (k : Int) :=
  findM_hit hk (by rw [eqT, decide_eq_true rfl]) fun j hj => by rw [eqT, decide_eq_false (verbs_apart k hk j hj)]
/-- The words of a rule's line. -/
def wordsOf (r : Ru) : List ByteArray :=
  [⟨#[98, 121, 116, 101]⟩, decS r.at_.toNat, wordS r.op.toNat, decS r.num.toNat, verbS r.ver.toNat] ++ (if r.ver = 2 then [decS r.key.toNat] else [])
def NL : ByteArray := ⟨#[10]⟩
def bodyRu (r : Ru) : ByteArray := joinB 32 (wordsOf r)
theorem line_body {r : Ru} (h : ruOk r = true) : lineRu r = bodyRu r ++ NL := by
  have h := ruOk_is h
  have e : ((r.ver.toNat : Nat) : Int) = r.ver := by have := h.ver0; omega
  apply tl_inj
  unfold lineRu lineS bodyRu wordsOf NL
  rw [e]
  by_cases h2 : r.ver = 2
  · simp [h2, tl_app, joinB]; rfl
  · have h2' : (r.ver == 2) = false := by simpa using h2
    simp [h2, h2', tl_app, joinB]; rfl
theorem words_no {r : Ru} (h : ruOk r = true) (c : UInt8) (hc : c = 32 ∨ c = 10) : ∀ w ∈ wordsOf r, NoB c w := by
  have h := ruOk_is h
  have h1 := h.op0; have h2 := h.op1; have h3 := h.ver0; have h4 := h.ver1
  have hd : ∀ n, NoB c (decS n) := fun n => no_dec n c (by rcases hc with rfl | rfl <;> decide)
  have hw : NoB c (wordS r.op.toNat) := by have := no_word r.op.toNat (by omega); rcases hc with rfl | rfl; exact this.1; exact this.2
  have hv : NoB c (verbS r.ver.toNat) := by have := no_verb r.ver.toNat (by omega); rcases hc with rfl | rfl; exact this.1; exact this.2
  have hb : NoB c ⟨#[98, 121, 116, 101]⟩ := by rcases hc with rfl | rfl <;> (unfold NoB; decide +kernel)
  intro w hm
  unfold wordsOf at hm
  split at hm <;> (simp only [List.cons_append, List.nil_append, List.append_nil, List.mem_cons, List.not_mem_nil, or_false] at hm)
  · rcases hm with rfl | rfl | rfl | rfl | rfl | rfl
    · exact hb
    · exact hd _
    · exact hw
    · exact hd _
    · exact hv
    · exact hd _
  · rcases hm with rfl | rfl | rfl | rfl | rfl
    · exact hb
    · exact hd _
    · exact hw
    · exact hd _
    · exact hv
/-- What words say. -/
noncomputable def readW (W : List ByteArray) : Ru :=
  ⟨numM (W.getD 1 ⟨#[]⟩), findM wordS 21 (W.getD 2 ⟨#[]⟩), numM (W.getD 3 ⟨#[]⟩), findM verbS 3 (W.getD 4 ⟨#[]⟩), if W.length = 6 then numM (W.getD 5 ⟨#[]⟩) else 0⟩
theorem read_words {r : Ru} (h : ruOk r = true) : readW (wordsOf r) = r := by
  have h := ruOk_is h
  have h1 := h.at0; have h2 := h.at1; have h3 := h.op0; have h4 := h.op1; have h5 := h.num0; have h6 := h.num1; have h7 := h.ver0; have h8 := h.ver1; have h9 := h.key0; have h10 := h.key1; have h11 := h.none
  have e1 := numM_dec r.at_.toNat (by omega)
  have e2 := find_word r.op.toNat (by omega)
  have e3 := numM_dec r.num.toNat (by omega)
  have e4 := find_verb r.ver.toNat (by omega)
  have e5 := numM_dec r.key.toNat (by omega)
  obtain ⟨a, o, n, v, k⟩ := r
  simp only at *
  unfold readW wordsOf
  by_cases hv : v = 2
  · simp only [hv, if_true, List.cons_append, List.nil_append]
    simp [e1, e2, e3, e5]
    subst hv
    have := find_verb 2 (by omega)
    refine ⟨by omega, by omega, by omega, by exact_mod_cast this, by omega⟩
  · simp only [hv, if_false, List.append_nil]
    simp [e1, e2, e3, e4]
    refine ⟨by omega, by omega, by omega, by omega, by omega⟩
/-- What a line says. -/
noncomputable def readM (s : ByteArray) : Ru × Bool :=
  if (cutM s 32 6).length = 5 ∨ (cutM s 32 6).length = 6 then (readW (cutM s 32 6), ruOk (readW (cutM s 32 6)) && decide (tl (lineRu (readW (cutM s 32 6))) = tl (s ++ NL))) else (⟨0, 0, 0, 0, 0⟩, false)
theorem readM_yes {s : ByteArray} (h : (readM s).2 = true) : ruOk (readM s).1 = true ∧ lineRu (readM s).1 = s ++ NL := by
  unfold readM at h ⊢
  split at h
  · rename_i hc
    rw [if_pos hc]
    simp only [Bool.and_eq_true, decide_eq_true_eq] at h
    exact ⟨h.1, tl_inj h.2⟩
  · cases h
theorem app_inj {a b c : ByteArray} (h : a ++ c = b ++ c) : a = b := by
  have := congrArg tl h
  rw [tl_app, tl_app] at this
  exact tl_inj (List.append_cancel_right this)
theorem readM_line {r : Ru} (h : ruOk r = true) {s : ByteArray} (hs : lineRu r = s ++ NL) : readM s = (r, true) := by
  have hb : s = bodyRu r := app_inj (hs.symm.trans (line_body h))
  have hne : wordsOf r ≠ [] := by unfold wordsOf; simp
  have hlen : (wordsOf r).length = 5 ∨ (wordsOf r).length = 6 := by unfold wordsOf; split <;> simp
  have hc : cutM s 32 6 = wordsOf r := cutM_join (c := 32) (wordsOf r) hne (words_no h 32 (.inl rfl)) hb (by omega)
  unfold readM
  rw [hc, if_pos hlen, read_words h, h, hs, decide_eq_true rfl]; rfl
end Go.Proofs.YtkaekiodjjhjkaaDoor
