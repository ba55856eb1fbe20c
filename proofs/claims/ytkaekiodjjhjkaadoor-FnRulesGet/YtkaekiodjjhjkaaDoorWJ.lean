/- Rules copied and compared, by the laws. -/
import Derived.Test.YtkaekiodjjhjkaaDoorWA
import Derived.Test.YtkaekiodjjhjkaaDoorSU
namespace Go.Proofs.YtkaekiodjjhjkaaDoor
open Go.RowKit
set_option linter.unusedVariables false
set_option linter.unusedSimpArgs false
theorem el36 : ElT Tryd.prog 23 36 (.agg #[.int .i64 0, .int .i64 0, .int .i64 0, .int .i64 0, .int .i64 0]) 5 40 := ⟨by kernel_rfl, by kernel_rfl, by kernel_rfl, by decide⟩
def eqRu (r q : Ru) : Bool := !(r.at_ != q.at_) && (!(r.op != q.op) && (!(r.num != q.num) && (!(r.ver != q.ver) && !(r.key != q.key))))
theorem eqRu_iff {r q : Ru} : eqRu r q = true ↔ r = q := by
  obtain ⟨a, b, c, d, e⟩ := r
  obtain ⟨a', b', c', d', e'⟩ := q
  simp [eqRu]
def eqRus (f g : Nat → Ru) (n m : Nat) : Bool := decide (n = m) && (List.range n).all fun i => eqRu (f i) (g i)
theorem eqRus_len {f g : Nat → Ru} {n m : Nat} (h : ¬ n = m) : eqRus f g n m = false := by simp [eqRus, h]
theorem eqRus_no {f g : Nat → Ru} {n m i : Nat} (hi : i < n) (h : eqRu (f i) (g i) = false) : eqRus f g n m = false := by
  rw [eqRus, List.all_eq_false.2 ⟨i, List.mem_range.2 hi, by simp [h]⟩, Bool.and_false]
theorem eqRus_yes {f g : Nat → Ru} {n m : Nat} (h0 : n = m) (h : ∀ i, i < n → eqRu (f i) (g i) = true) : eqRus f g n m = true := by
  rw [eqRus, List.all_eq_true.2 fun i hi => h i (List.mem_range.1 hi), decide_eq_true h0]; rfl
theorem ovw_size : ∀ (l : List Value) (A : Array Value) (o : Nat), (ovw A o l).size = A.size
  | [], _, _ => rfl
  | v :: l, A, o => by rw [ovw, ovw_size l]; simp
theorem ovw_get : ∀ (l : List Value) (A : Array Value) (o m : Nat), o + l.length ≤ A.size → (ovw A o l)[m]? = if o ≤ m ∧ m < o + l.length then l[m - o]? else A[m]?
  | [], A, o, m, _ => by rw [ovw, if_neg (by rintro ⟨h1, h2⟩; simp at h2; omega)]
  | v :: l, A, o, m, h => by
    simp only [List.length_cons] at h ⊢
    rw [ovw, ovw_get l _ (o + 1) m (by simp; omega)]
    rcases Nat.lt_trichotomy m o with hm | hm | hm
    · rw [if_neg (by omega), if_neg (by omega), Array.getElem?_setIfInBounds_ne (by omega)]
    · subst hm
      rw [if_neg (by omega), if_pos (by omega), Nat.sub_self, Array.getElem?_setIfInBounds_self_of_lt (by omega)]; rfl
    · by_cases h2 : m < o + 1 + l.length
      · rw [if_pos (by omega), if_pos (by omega), show m - o = (m - (o + 1)) + 1 by omega, List.getElem?_cons_succ]
      · rw [if_neg (by omega), if_neg (by omega), Array.getElem?_setIfInBounds_ne (by omega)]
/-- The first k of a row of rules. -/
def RuRow (cur : Array Value) (f : Nat → Ru) (k : Nat) : Prop := ∀ i, i < k → ∀ j, j < 5 → cur[0 + i * 5 + j]? = (f i).arr[j]?
theorem RuRow.next {cur : Array Value} {f : Nat → Ru} {k n : Nat} (h : RuRow cur f k) (hs : cur.size = n * 5) (hk : k < n) : RuRow (ovw cur (0 + k * 5) ((f k).arr).toList) f (k + 1) := by
  intro i hi j hj
  have hl : ((f k).arr).toList.length = 5 := rfl
  rw [ovw_get _ _ _ _ (by rw [hl, hs]; omega), hl]
  rcases Nat.lt_or_ge i k with h1 | h1
  · rw [if_neg (by omega)]; exact h i h1 j hj
  · obtain rfl : i = k := by omega
    rw [if_pos (by omega), show 0 + i * 5 + j - (0 + i * 5) = j by omega]; simp
theorem RuRow.at {w : World} {b n : Nat} {T : TypeId} {cur : Array Value} {f : Nat → Ru} (h : RuRow cur f n) (hx : BX w b T cur) : RowAt w b 0 n 5 fun i => (f i).arr :=
  ⟨hx.lt, fun i hi j hj => ⟨by rw [hx.cell]; exact h i hi j hj, hj⟩⟩
end Go.Proofs.YtkaekiodjjhjkaaDoor
