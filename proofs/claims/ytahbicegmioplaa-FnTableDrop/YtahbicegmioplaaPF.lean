/- Plain mathematics of puts and drops. -/
import Derived.Test.YtahbicegmioplaaDL
namespace Go.Proofs.Ytahbicegmioplaa
open Go.RowKit
set_option linter.unusedVariables false
set_option linter.unusedSimpArgs false

theorem zip_fs : ∀ (P : List Pr), (P.map Prod.fst).zip (P.map Prod.snd) = P
  | [] => rfl
  | x :: P => by simp [zip_fs P]
theorem map_fst_zip {ks : List Int} {vs : List ByteArray} (h : ks.length = vs.length) : (ks.zip vs).map Prod.fst = ks := List.map_fst_zip (by omega)
theorem map_snd_zip {ks : List Int} {vs : List ByteArray} (h : ks.length = vs.length) : (ks.zip vs).map Prod.snd = vs := List.map_snd_zip (by omega)
theorem find_putO (ps : List Pr) (key o : Int) (val : ByteArray) : (putO ps key val).find? (fun x => x.1 == o) = (ps.find? (fun x => x.1 == o)).map (fun x => if x.1 == key then (x.1, val) else (x.1, x.2)) := by
  unfold putO
  rw [List.find?_map]
  congr 2
  funext x
  simp only [Function.comp]
  split <;> rfl
theorem look_putO_other {ps : List Pr} {key o : Int} (val : ByteArray) (ho : (o == key) = false) : lookP (putO ps key val) o = lookP ps o := by
  unfold lookP
  rw [find_putO]
  cases h : ps.find? (fun x => x.1 == o) with
  | none => rfl
  | some x =>
    have hx : x.1 = o := by simpa using List.find?_some h
    have : ¬ x.1 = key := by rw [hx]; simpa using ho
    simp [this]
theorem find_any {ps : List Pr} {key : Int} (h : anyK ps key = true) : ∃ x, ps.find? (fun x => x.1 == key) = some x ∧ x.1 = key := by
  cases hf : ps.find? (fun x => x.1 == key) with
  | none =>
    rw [List.find?_eq_none] at hf
    simp only [anyK, List.any_eq_true] at h
    obtain ⟨x, hx, he⟩ := h
    exact absurd he (hf x hx)
  | some x => exact ⟨x, rfl, by simpa using List.find?_some hf⟩
theorem find_not {ps : List Pr} {key : Int} (h : anyK ps key = false) : ps.find? (fun x => x.1 == key) = none := by
  rw [List.find?_eq_none]
  intro x hx he
  simp only [anyK, List.any_eq_false] at h
  exact h x hx he
theorem anyK_none {ps : List Pr} {key : Int} (h : anyK ps key = false) : ∀ x ∈ ps, (x.1 == key) = false := by
  intro x hx
  simp only [anyK, List.any_eq_false] at h
  simpa using h x hx
theorem look_put (ps : List Pr) (key : Int) (val : ByteArray) : lookP (putP ps key val) key = (val, true) := by
  unfold putP
  split
  · rename_i h
    obtain ⟨x, hf, he⟩ := find_any h
    unfold lookP
    rw [find_putO, hf]
    simp [he]
  · rename_i h
    have h' : anyK ps key = false := by simpa using h
    rw [putO_none (anyK_none h')]
    unfold lookP
    rw [List.find?_append, find_not h']
    simp
theorem look_put_other (ps : List Pr) {key o : Int} (val : ByteArray) (ho : (o == key) = false) : lookP (putP ps key val) o = lookP ps o := by
  unfold putP
  split
  · exact look_putO_other val ho
  · rename_i h
    have h' : anyK ps key = false := by simpa using h
    rw [putO_none (anyK_none h')]
    unfold lookP
    have hk : (key == o) = false := by simp at ho ⊢; exact fun e => ho e.symm
    rw [List.find?_append]
    simp [hk]
theorem code_zero {k s r : Int} {ks : List Int} {key : Int} {val : ByteArray} (h : codeI k s r ks key val = 0) : inB key 0 4294967295 = true ∧ (val.size : Int) = s ∧ (key ∈ ks ∨ (key ∉ ks ∧ k ≠ 1 ∧ (ks.length : Int) ≠ r)) := by
  unfold codeI at h
  split at h
  · omega
  · rename_i h1
    have h2 : inB key 0 4294967295 = true ∧ (val.size : Int) = s := by
      constructor
      · cases hb : inB key 0 4294967295
        · exact absurd (.inl hb) h1
        · rfl
      · exact Decidable.byContradiction fun hn => h1 (.inr hn)
    refine ⟨h2.1, h2.2, ?_⟩
    split at h
    · rename_i h3; exact .inl h3
    · rename_i h3
      split at h
      · omega
      · rename_i h4
        split at h
        · omega
        · rename_i h5; exact .inr ⟨h3, h4, h5⟩
theorem anyK_mem {ks : List Int} {vs : List ByteArray} {key : Int} (hl : ks.length = vs.length) : anyK (ks.zip vs) key = true ↔ key ∈ ks := by
  simp only [anyK, List.any_eq_true, beq_iff_eq]
  constructor
  · rintro ⟨x, hx, rfl⟩
    exact (List.of_mem_zip hx).1
  · intro h
    rw [← map_fst_zip hl] at h
    obtain ⟨x, hx, rfl⟩ := List.mem_map.1 h
    exact ⟨x, hx, rfl⟩
theorem ok_put {k s r : Int} {ks : List Int} {vs : List ByteArray} {key : Int} {val : ByteArray} (h : OkP k s r ks vs) (hc : codeI k s r ks key val = 0) :
    OkP k s r ((putP (ks.zip vs) key val).map Prod.fst) ((putP (ks.zip vs) key val).map Prod.snd) := by
  obtain ⟨hkey, hval, hin⟩ := code_zero hc
  have hl := (shape2_len h.shape).1
  have hsh := h.shape
  by_cases hm : key ∈ ks
  · have ha : anyK (ks.zip vs) key = true := (anyK_mem hl).2 hm
    have e1 : (putP (ks.zip vs) key val).map Prod.fst = ks := by unfold putP; rw [if_pos ha, putO_fst, map_fst_zip hl]
    have e2 : putP (ks.zip vs) key val = putO (ks.zip vs) key val := by unfold putP; rw [if_pos ha]
    have hlv : ((putP (ks.zip vs) key val).map Prod.snd).length = vs.length := by rw [e2, List.length_map, putO_length, List.length_zip]; omega
    rw [e1]
    refine ⟨by rw [hlv]; exact hsh, h.full, ⟨fun i hi hn => ?_, h.good.num, h.good.row, h.good.once⟩⟩
    have hi' : i < ((putO (ks.zip vs) key val).map Prod.snd).length := by rw [← e2]; exact hi
    have : ((putP (ks.zip vs) key val).map Prod.snd)[i] = ((putO (ks.zip vs) key val).map Prod.snd)[i] := by simp only [e2]
    rw [this]
    simp only [putO, List.getElem_map, List.getElem_zip]
    split
    · exact hval
    · exact h.good.size i (by omega) hn
  · obtain ⟨_, hk1, hr⟩ : key ∉ ks ∧ k ≠ 1 ∧ (ks.length : Int) ≠ r := by
      rcases hin with h1 | h1
      · exact absurd h1 hm
      · exact h1
    have ha : anyK (ks.zip vs) key = false := by
      cases hb : anyK (ks.zip vs) key
      · rfl
      · exact absurd ((anyK_mem hl).1 hb) hm
    have e0 : putP (ks.zip vs) key val = ks.zip vs ++ [(key, val)] := by unfold putP; rw [ha, putO_none (anyK_none ha)]; simp
    rw [e0, List.map_append, List.map_append, map_fst_zip hl, map_snd_zip hl]
    have hb := shape2_len hsh
    refine ⟨?_, fun e => absurd e hk1, ⟨fun i hi hn => ?_, fun i hi hn => ?_, fun e => absurd e hk1, fun i hi hn j hj => ?_⟩⟩
    · simp only [shape2B, Bool.and_eq_true, decide_eq_true_eq, beq_iff_eq, List.length_append, List.length_map, List.length_cons, List.length_nil] at hsh ⊢
      refine ⟨⟨hsh.1.1, by omega⟩, by omega⟩
    · rw [List.getElem_append]
      split
      · rename_i h1; exact h.good.size i h1 (by omega)
      · simpa using hval
    · rw [List.getElem_append]
      split
      · rename_i h1; exact h.good.num i h1 h1
      · simpa using hkey
    · rw [List.getElem_append, List.getElem_append]
      split
      · rename_i h1
        split
        · rename_i h2; exact h.good.once i h2 h2 j hj
        · simp only [List.map_cons, List.getElem_singleton, List.map_nil]
          exact fun e => hm (e ▸ List.getElem_mem h1)
      · rename_i h1
        simp only [List.length_append, List.length_map, List.length_cons, List.length_nil] at hi
        omega
theorem lookT_ok {k s r : Int} {ks : List Int} {vs : List ByteArray} (key : Int) (h : okB k s r ks vs = true) : lookT k s r ks vs key = lookP (ks.zip vs) key := by unfold lookT; rw [if_pos h]
/-- All that is asked of a put. -/
structure PutF (k s r : Int) (ks : List Int) (vs : List ByteArray) (key : Int) (val : ByteArray) (KS : List Int) (VS : List ByteArray) : Prop where
  eq : putT k s r ks vs key val = ⟨k, s, r, KS, VS, 0⟩
  ok : okB k s r KS VS = true
  at' : lookT k s r KS VS key = (val, true)
  other : ∀ o, (o == key) = false → lookT k s r KS VS o = lookT k s r ks vs o
  lenK : KS.length ≤ ks.length + 1
  lenV : VS.length ≤ vs.length + 1
theorem put_cases (k s r : Int) (ks : List Int) (vs : List ByteArray) (key : Int) (val : ByteArray) (hok : okB k s r ks vs = true) : (∃ KS VS, PutF k s r ks vs key val KS VS) ∨ ∃ C, (C == 0) = false ∧ putT k s r ks vs key val = ⟨k, s, r, ks, vs, C⟩ := by
  by_cases hc : codeI k s r ks key val = 0
  · have hok' := okB_true.2 (ok_put (okB_true.1 hok) hc)
    have hz1 : (ks.zip vs).length ≤ ks.length := by simp; omega
    have hz2 : (ks.zip vs).length ≤ vs.length := by simp; omega
    have hp := putP_length (ks.zip vs) key val
    refine .inl ⟨_, _, by unfold putT; rw [if_pos hok, if_pos hc], hok', ?_, fun o ho => ?_, by rw [List.length_map]; omega, by rw [List.length_map]; omega⟩
    · rw [lookT_ok _ hok', zip_fs, look_put]
    · rw [lookT_ok _ hok', zip_fs, look_put_other _ _ ho, lookT_ok _ hok]
  · exact .inr ⟨codeI k s r ks key val, by simpa using hc, by unfold putT; rw [if_pos hok, if_neg hc]⟩
end Go.Proofs.Ytahbicegmioplaa
