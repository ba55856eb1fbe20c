/- TablePut of the specification. -/
import Derived.Test.YtkaekiodjjhjkaaQUC
namespace Go.Proofs.Ytkaekiodjjhjkaa.G
open Go.RowKit
set_option linter.unusedSimpArgs false
set_option linter.unusedVariables false

theorem putO_fst (ps : List Pr) (key : Int) (val : ByteArray) : (putO ps key val).map Prod.fst = ps.map Prod.fst := by
  simp only [putO, List.map_map]
  refine List.map_congr_left fun x _ => ?_
  simp only [Function.comp]
  split <;> rfl
theorem putO_snd {ks : List Int} {vs : List ByteArray} {key : Int} {val : ByteArray} {i : Nat} (hl : ks.length = vs.length) (hi : i < ks.length) (he : (ks[i] == key) = true) (hn : ∀ j (h : j < ks.length), j ≠ i → (ks[j] == key) = false) : (putO (ks.zip vs) key val).map Prod.snd = vs.set i val := by
  refine List.ext_getElem (by simp [putO]; omega) fun j h1 h2 => ?_
  simp only [putO, List.length_map, List.length_zip] at h1
  rw [List.getElem_set]
  simp only [putO, List.getElem_map, List.getElem_zip]
  by_cases e : i = j
  · subst e; rw [if_pos he, if_pos rfl]
  · rw [if_neg e, if_neg (by rw [hn j (by omega) (fun e' => e e'.symm)]; simp)]
theorem putO_none {ps : List Pr} {key : Int} {val : ByteArray} (h : ∀ x ∈ ps, (x.1 == key) = false) : putO ps key val = ps := by
  unfold putO
  conv => rhs; rw [← List.map_id ps]
  refine List.map_congr_left fun x hx => ?_
  rw [h x hx]; simp
theorem putL_eq {k s r : Int} {ks : List Int} {vs : List ByteArray} {key : Int} {val : ByteArray} (hok : okB k s r ks vs = true) (hf : ¬ (inB key 0 4294967295 = false ∨ (val.size : Int) ≠ s)) : putL k s r ks vs key val = putT k s r ks vs key val := by
  have h := okB_true.1 hok
  obtain ⟨hl, hle, _⟩ := shape2_len h.shape
  unfold putT
  rw [if_pos hok]
  rcases atI_cases ks key with ⟨hat, hno⟩ | ⟨i, hi, hat, hthere, hno⟩
  · have hmem : ¬ key ∈ ks := fun hm => by
      obtain ⟨j, hj, e⟩ := List.getElem_of_mem hm
      have := hno j hj
      simp [e] at this
    have hz : ∀ x ∈ ks.zip vs, (x.1 == key) = false := fun x hx => by
      obtain ⟨j, hj, e⟩ := List.getElem_of_mem (List.of_mem_zip hx).1
      rw [← e]; exact hno j hj
    have hany : anyK (ks.zip vs) key = false := by simp only [anyK]; rw [List.any_eq_false]; intro x hx; simp [hz x hx]
    unfold putL codeI
    rw [hat, if_neg (by omega), if_neg hf, if_neg hmem]
    by_cases hk : k = 1
    · rw [if_pos hk, if_pos hk, if_neg (by omega)]
    · rw [if_neg hk, if_neg hk]
      by_cases hr : (ks.length : Int) = r
      · rw [if_pos hr, if_pos (by omega), if_neg (by omega)]
      · rw [if_neg hr, if_neg (by omega), if_pos rfl]
        unfold putP
        rw [hany, if_neg (by simp), putO_none hz]
        simp [List.map_fst_zip (show ks.length ≤ vs.length by omega), List.map_snd_zip (show vs.length ≤ ks.length by omega)]
  · have hmem : key ∈ ks := by have := List.getElem_mem hi; simp at hthere; rw [hthere] at this; exact this
    have huniq : ∀ j (h : j < ks.length), j ≠ i → (ks[j] == key) = false := by
      intro j hj hne
      have e : ks[i] = key := by simpa using hthere
      rw [← e]
      by_cases hji : j < i
      · have := h.good.once i hi hi j hji; simpa using this
      · have := h.good.once j hj hj i (by omega); simpa using fun e' => this e'.symm
    have hany : anyK (ks.zip vs) key = true := by
      simp only [anyK]
      rw [List.any_eq_true]
      exact ⟨(ks[i], vs[i]'(by omega)), by rw [← List.getElem_zip (h := by simp; omega)]; exact List.getElem_mem _, hthere⟩
    unfold putL codeI
    rw [hat, if_pos (by omega), if_neg hf, if_pos hmem, if_pos rfl]
    unfold putP
    rw [hany, if_pos rfl, putO_fst, List.map_fst_zip (by omega), putO_snd hl hi hthere huniq]
    simp

end Go.Proofs.Ytkaekiodjjhjkaa.G
namespace Go.Proofs.Ytkaekiodjjhjkaa.G
open Go.RowKit
set_option linter.unusedSimpArgs false
set_option linter.unusedVariables false

/-- Block B holds a table of type t. -/
def B5 (t : TypeId) (W : World) (B : Nat) (k s r : Int) (v u : Value) : Prop := W.heap[B]? = some (.cells #[.int .i64 k, .int .i64 s, .int .i64 r, v, u] t (0, 0))
theorem B5.new (W : World) (t : TypeId) (k s r : Int) (v u : Value) : B5 t (W.alloc (.cells #[.int .i64 k, .int .i64 s, .int .i64 r, v, u] t)) W.heap.size k s r v u := World.alloc_heap_new W _
theorem B5.lt {t : TypeId} {W : World} {B : Nat} {k s r : Int} {v u : Value} (h : B5 t W B k s r v u) : B < W.heap.size := (Array.getElem?_eq_some_iff.1 h).1
theorem B5.cells {t : TypeId} {W : World} {B : Nat} {k s r : Int} {v u : Value} (h : B5 t W B k s r v u) : W.cell? ⟨B, 0, none⟩ = some (.int .i64 k) ∧ W.cell? ⟨B, 1, none⟩ = some (.int .i64 s) ∧ W.cell? ⟨B, 2, none⟩ = some (.int .i64 r) ∧ W.cell? ⟨B, 3, none⟩ = some v ∧ W.cell? ⟨B, 4, none⟩ = some u := by simp [World.cell?, show W.heap[B]? = _ from h]
theorem B5.exc {S : Nat → Prop} {t : TypeId} {W W' : World} {B : Nat} {k s r : Int} {v u : Value} (h : B5 t W B k s r v u) (he : Exc S W W') (hs : ¬ S B) : B5 t W' B k s r v u := (he.block B (B5.lt h) hs).trans h
theorem B5.alloc {t : TypeId} {W : World} {B : Nat} {k s r : Int} {v u : Value} (h : B5 t W B k s r v u) (X : Obj) : B5 t (W.alloc X) B k s r v u := B5.exc (S := fun _ => False) h (Exc.of ((Below.refl _ _).alloc (Nat.le_refl _) _)) id
theorem TabP.exc {S : Nat → Prop} {n₀ : Nat} {w w' : World} {ks : List Int} {vs : List ByteArray} {a b : Option Addr} (h : TabP n₀ w ks vs a b) (he : Exc S w w') (hs : ∀ q, isBlk a q ∨ isBlk b q → ¬ S q) : TabP n₀ w' ks vs a b :=
  ⟨h.ints.exc he (fun q hq => hs q (.inl hq)), h.strs.exc he (fun q hq => hs q (.inr hq)), h.wi.exc he (fun q hq => hs q (.inl hq)), h.ws.exc he (fun q hq => hs q (.inr hq)),
   fun q hq => ⟨(h.bi q hq).1, by have := (h.bi q hq).2; have := he.size; omega⟩, fun q hq => ⟨(h.bs q hq).1, by have := (h.bs q hq).2; have := he.size; omega⟩, h.ap⟩
end Go.Proofs.Ytkaekiodjjhjkaa.G
