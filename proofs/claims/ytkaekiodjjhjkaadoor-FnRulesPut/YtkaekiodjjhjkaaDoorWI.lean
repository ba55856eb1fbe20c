/- Rules' texts, read back. -/
import Derived.Test.YtkaekiodjjhjkaaDoorWH
namespace Go.Proofs.YtkaekiodjjhjkaaDoor
open Go.RowKit
set_option linter.unusedVariables false
set_option linter.unusedSimpArgs false
/-- The lines of rules, from a list. -/
def catL : List Ru → ByteArray
  | [] => ⟨#[]⟩
  | r :: l => lineRu r ++ catL l
theorem app_nil (a : ByteArray) : a ++ (⟨#[]⟩ : ByteArray) = a := by apply tl_inj; rw [tl_app]; exact List.append_nil _
theorem app_assoc (a b c : ByteArray) : a ++ b ++ c = a ++ (b ++ c) := ByteArray.append_assoc
theorem joinB_cons (c : UInt8) (w : ByteArray) {r : List ByteArray} (h : r ≠ []) : joinB c (w :: r) = w ++ (⟨#[c]⟩ ++ joinB c r) := by
  cases r with
  | nil => exact absurd rfl h
  | cons x r => rw [joinB]; exact fun e => h e
theorem joinB_snoc (c : UInt8) : ∀ (out : List ByteArray) (a b : ByteArray), joinB c (out ++ [a, b]) = joinB c (out ++ [a ++ (⟨#[c]⟩ ++ b)])
  | [], a, b => by simp [joinB]
  | w :: out, a, b => by
    rw [List.cons_append, List.cons_append, joinB_cons c w (by simp), joinB_cons c w (by simp), joinB_snoc c out a b]
/-- What was cut is joined again. -/
theorem cutN_back {c : UInt8} {s : ByteArray} {most : Nat} : ∀ (k i fr : Nat) (out : List ByteArray), k = s.size - i → fr ≤ i → joinB c (cutN s c.toNat most k i fr out) = joinB c (out ++ [s.extract fr s.size])
  | 0, i, fr, out, _, _ => rfl
  | k + 1, i, fr, out, hk, hf => by
    rw [cutN]
    split
    · split
      · rename_i hm hb
        rw [cutN_back k (i + 1) (i + 1) _ (by omega) (Nat.le_refl _), List.append_assoc]
        show joinB c (out ++ [s.extract fr i, s.extract (i + 1) s.size]) = _
        rw [joinB_snoc]
        congr 3
        apply tl_inj
        obtain ⟨b, hb'⟩ := byteAt_is s (i := i) (by omega)
        rw [byteAt_tl hb'] at hb
        rw [UInt8.toNat_inj.1 hb] at hb'
        obtain ⟨hi, e⟩ := List.getElem?_eq_some_iff.1 hb'
        rw [tl_app, tl_app, tl_ext, tl_all, tl_all]
        show (((tl s).take i).drop fr) ++ (c :: (tl s).drop (i + 1)) = (tl s).drop fr
        rw [← e, ← List.drop_eq_getElem_cons hi, ← List.drop_append_of_le_length (by rw [List.length_take]; omega), List.take_append_drop]
      · rw [cutN_back k (i + 1) fr out (by omega) (by omega)]
    · rfl
theorem cutM_back (c : UInt8) (s : ByteArray) (most : Nat) : joinB c (cutM s c.toNat most) = s := by
  unfold cutM
  rw [cutN_back _ _ _ _ (by omega) (Nat.le_refl _)]
  apply tl_inj
  show tl (s.extract 0 s.size) = _
  rw [tl_all]; rfl
/-- What lines say, from the i-th on. -/
noncomputable def getL : List ByteArray → Nat → Option (List Ru)
  | [], _ => some []
  | x :: t, i => if (readM x).2 && decide (i < 6) then (getL t (i + 1)).map ((readM x).1 :: ·) else none
/-- What a text says. -/
noncomputable def getM (s : ByteArray) : Option (List Ru) :=
  if s.size = 0 then some [] else if byteAt s (s.size - 1) = 10 then getL (cutM (s.extract 0 (s.size - 1)) 10 s.size) 0 else none
theorem getL_lines : ∀ (l : List Ru) (i : Nat), (∀ r ∈ l, ruOk r = true) → i + l.length ≤ 6 → getL (l.map bodyRu) i = some l
  | [], _, _, _ => rfl
  | r :: l, i, ho, hl => by
    have h := readM_line (ho r (by simp)) (line_body (ho r (by simp)))
    rw [List.map_cons, getL, h, getL_lines l (i + 1) (fun x hx => ho x (by simp [hx])) (by simp at hl; omega)]
    have : i < 6 := by simp at hl; omega
    simp [this]
theorem getL_is : ∀ (W : List ByteArray) (i : Nat) (l : List Ru), getL W i = some l → l.length = W.length ∧ (W ≠ [] → i + W.length ≤ 6) ∧ (∀ r ∈ l, ruOk r = true) ∧ (W ≠ [] → catL l = joinB 10 W ++ NL)
  | [], _, l, h => by cases h; simp
  | x :: t, i, l, h => by
    rw [getL] at h
    split at h
    · rename_i hc
      simp only [Bool.and_eq_true, decide_eq_true_eq] at hc
      obtain ⟨hok, hline⟩ := readM_yes hc.1
      cases hg : getL t (i + 1) with
      | none => rw [hg] at h; cases h
      | some l' =>
        rw [hg] at h
        obtain rfl : (readM x).1 :: l' = l := by simpa using h
        obtain ⟨h1, h2, h3, h4⟩ := getL_is t (i + 1) l' hg
        refine ⟨by simp [h1], fun _ => ?_, ?_, fun _ => ?_⟩
        · cases t with
          | nil => simp; omega
          | cons y t => have := h2 (by simp); simp at this ⊢; omega
        · intro r hr
          rcases List.mem_cons.1 hr with rfl | hr
          · exact hok
          · exact h3 r hr
        · rw [catL, hline]
          cases t with
          | nil =>
            obtain rfl : l' = [] := List.eq_nil_of_length_eq_zero h1
            rw [catL, app_nil]; rfl
          | cons y t =>
            rw [h4 (by simp), joinB_cons 10 x (by simp), app_assoc, app_assoc, app_assoc]; rfl
    · cases h
theorem cat_join : ∀ (l : List Ru), l ≠ [] → (∀ r ∈ l, ruOk r = true) → catL l = joinB 10 (l.map bodyRu) ++ NL
  | [], h, _ => absurd rfl h
  | [r], _, ho => by rw [catL, line_body (ho r (by simp)), catL, app_nil]; rfl
  | r :: x :: l, _, ho => by
    have e2 := joinB_cons 10 (bodyRu r) (r := (x :: l).map bodyRu) (by simp)
    have e3 := cat_join (x :: l) (by simp) (fun y hy => ho y (by simp at hy ⊢; exact .inr hy))
    generalize x :: l = R at e2 e3 ⊢
    rw [catL, line_body (ho r (by simp)), e3, List.map_cons, e2, app_assoc, app_assoc, app_assoc]; rfl
theorem no_join {c d : UInt8} (hcd : c ≠ d) : ∀ (W : List ByteArray), (∀ w ∈ W, NoB c w) → NoB c (joinB d W)
  | [], _ => by unfold NoB joinB tl; simp
  | [w], h => h w (by simp)
  | w :: x :: r, h => by
    rw [joinB_cons d w (by simp)]
    unfold NoB
    rw [tl_app, tl_app]
    intro hm
    rcases List.mem_append.1 hm with hm | hm
    · exact h w (by simp) hm
    · rcases List.mem_append.1 hm with hm | hm
      · have : c = d := by simpa [tl] using hm
        exact hcd this
      · exact no_join hcd (x :: r) (fun y hy => h y (by simp at hy ⊢; exact .inr hy)) hm
theorem body_no {r : Ru} (h : ruOk r = true) : NoB 10 (bodyRu r) := no_join (by decide) _ (words_no h 10 (.inr rfl))
/-- Rules' lines are read back. -/
theorem get_cat {l : List Ru} (ho : ∀ r ∈ l, ruOk r = true) (hl : l.length ≤ 6) : getM (catL l) = some l := by
  by_cases h0 : l = []
  · subst h0; unfold getM; rw [if_pos (by rfl)]
  · have hc := cat_join l h0 ho
    generalize joinB 10 (l.map bodyRu) = X at hc
    have hX : X = joinB 10 (l.map bodyRu) := app_inj (hc.symm.trans (cat_join l h0 ho))
    have hs : (catL l).size = X.size + 1 := by rw [hc, ByteArray.size_append]; rfl
    have hlast : byteAt (catL l) ((catL l).size - 1) = 10 := by
      refine byteAt_tl (b := 10) ?_
      rw [hs, hc, tl_app, List.getElem?_append_right (by rw [tl_len]; omega), tl_len]
      rw [show X.size + 1 - 1 - X.size = 0 by omega]; rfl
    have hex : (catL l).extract 0 ((catL l).size - 1) = X := by
      apply tl_inj
      rw [tl_ext, hs, hc, tl_app, show X.size + 1 - 1 = (tl X).length by rw [tl_len]; omega, List.take_left]; rfl
    unfold getM
    rw [if_neg (by omega), if_pos hlast, hex]
    have := cutM_join (c := 10) (s := X) (most := (catL l).size) (l.map bodyRu) (by simpa using h0) (by
      intro w hw
      obtain ⟨r, hr, rfl⟩ := List.mem_map.1 hw
      exact body_no (ho r hr)) hX (by
        rw [List.length_map, hs]
        have hge : ∀ (W : List ByteArray), W.length ≤ (joinB 10 W).size + 1 := by
          intro W
          induction W with
          | nil => simp
          | cons w r ih =>
            cases r with
            | nil => simp
            | cons x r => rw [joinB_cons 10 w (by simp), ByteArray.size_append, ByteArray.size_append]; have : (⟨#[10]⟩ : ByteArray).size = 1 := rfl; simp only [List.length_cons] at ih ⊢; omega
        have := hge (l.map bodyRu)
        rw [← hX, List.length_map] at this
        omega)
    show getL (cutM X (10 : UInt8).toNat _) 0 = _
    rw [this]
    exact getL_lines l 0 ho (by omega)
/-- What is read is written just so. -/
theorem cat_get {s : ByteArray} {l : List Ru} (h : getM s = some l) : (∀ r ∈ l, ruOk r = true) ∧ l.length ≤ 6 ∧ catL l = s := by
  unfold getM at h
  split at h
  · rename_i h0
    cases h
    refine ⟨by simp, by simp, ?_⟩
    apply tl_inj
    have : (tl s).length = 0 := by rw [tl_len]; exact h0
    rw [List.eq_nil_of_length_eq_zero this]; rfl
  · rename_i h0
    split at h
    · rename_i hb
      have hback := cutM_back 10 (s.extract 0 (s.size - 1)) s.size
      have hne : cutM (s.extract 0 (s.size - 1)) 10 s.size ≠ [] := by
        intro e
        have h1 := getL_is _ _ _ h
        have : ∀ (k i fr : Nat) (out : List ByteArray), cutN (s.extract 0 (s.size - 1)) 10 s.size k i fr out ≠ [] := by
          intro k
          induction k with
          | zero => intro i fr out; simp [cutN]
          | succ k ih => intro i fr out; rw [cutN]; split; split; exact ih _ _ _; exact ih _ _ _; simp
        exact this _ _ _ _ e
      obtain ⟨h1, h2, h3, h4⟩ := getL_is _ _ _ h
      have h2 := h2 hne
      refine ⟨h3, by omega, ?_⟩
      rw [h4 hne]
      have e10 : (10 : UInt8).toNat = 10 := rfl
      rw [e10] at hback
      rw [hback]
      apply tl_inj
      obtain ⟨b, hb'⟩ := byteAt_is s (i := s.size - 1) (by omega)
      rw [byteAt_tl hb'] at hb
      obtain rfl : b = 10 := UInt8.toNat_inj.1 hb
      obtain ⟨hi, e⟩ := List.getElem?_eq_some_iff.1 hb'
      rw [tl_app, tl_ext, List.drop_zero]
      have hl := tl_len s
      show (tl s).take (s.size - 1) ++ [10] = tl s
      have : (tl s).drop (s.size - 1) = [10] := by
        rw [List.drop_eq_getElem_cons hi, e, List.drop_eq_nil_of_le (by omega)]
      rw [← this, List.take_append_drop]
    · cases h
theorem catR_list (f : Nat → Ru) : ∀ n, catR f n = catL ((List.range n).map f)
  | 0 => rfl
  | n + 1 => by
    have happ : ∀ (a b : List Ru), catL (a ++ b) = catL a ++ catL b := by
      intro a b
      induction a with
      | nil => apply tl_inj; rw [tl_app]; rfl
      | cons x a ih => rw [List.cons_append, catL, catL, ih, app_assoc]
    rw [catR, catR_list f n, List.range_succ, List.map_append, happ]
    congr 1
    rw [List.map_cons, List.map_nil, catL, catL, app_nil]
end Go.Proofs.YtkaekiodjjhjkaaDoor
