/- A row of ops: one field set, a part of it, another one put in between. -/
import Derived.Test.YtkaekiodjjhjkaaQKM
import Derived.Test.YtkaekiodjjhjkaaQLnS
import Derived.Test.YtkaekiodjjhjkaaQGrp1
namespace Go.Proofs.Ytkaekiodjjhjkaa
open Go.RowKit
set_option linter.unusedVariables false
set_option linter.unusedSimpArgs false


theorem own_pos {w : World} {n₀ e s n c : Nat} {a : Option Addr} {xs : List Value} (h : w.ownsRow n₀ e s (.slice a n c) n xs) (hn : 0 < n) : ∃ g, a = some ⟨g, 0, none⟩ := by
  rcases h.2 with ⟨h1, _⟩ | ⟨g, c', cur, e, _⟩
  · simp only [Value.slice.injEq] at h1
    omega
  · simp only [Value.slice.injEq] at e
    exact ⟨g, e.1⟩
theorem own_cap {w : World} {base e sz g n c : Nat} {xs : List Value} (h : w.ownsRow base e sz (.slice (some ⟨g, 0, none⟩) n c) n xs) : n ≤ c ∧ c ≤ maxLen ∧ base ≤ g ∧ g < w.heap.size := by
  rcases h.2 with ⟨h', _⟩ | ⟨g', cap', cur, h', hb, hg, h1, h2, h3, h4⟩
  · simp at h'
  · simp only [Value.slice.injEq, Option.some.injEq, Addr.mk.injEq, and_true, true_and] at h'
    obtain ⟨rfl, rfl⟩ := h'
    exact ⟨h1, h2, hb, (Array.getElem?_eq_some_iff.1 hg).1⟩
theorem own_put {w : World} {base e g n cap i : Nat} {xs : List Value} (h : w.ownsRow base e 6 (.slice (some ⟨g, 0, none⟩) n cap) n xs) (hi : i < n * 6) (x : Value) : (w.setCell ⟨g, i, none⟩ x).ownsRow base e 6 (.slice (some ⟨g, 0, none⟩) n cap) n (xs.set i x) := by
  refine ⟨by rw [List.length_set]; exact h.1, ?_⟩
  rcases h.2 with ⟨h', _⟩ | ⟨g', cap', cur, h', hb, hg, h1, h2, h3, h4⟩
  · simp at h'
  · simp only [Value.slice.injEq, Option.some.injEq, Addr.mk.injEq, and_true, true_and] at h'
    obtain ⟨rfl, rfl⟩ := h'
    obtain ⟨hlt, hk⟩ := Array.getElem?_eq_some_iff.1 hg
    refine .inr ⟨g, cap, cur.setIfInBounds i x, rfl, hb, ?_, h1, h2, by simpa using h3, ?_⟩
    · show (w.heap.modify g _)[g]? = _
      rw [Array.getElem?_eq_getElem (by rw [Array.size_modify]; exact hlt), Array.getElem_modify_self, hk]
      rfl
    · rw [← h4]; simp [List.take_set]
theorem flat_cons (x : I6) (xs : List I6) : flat (x :: xs) = Value.int .i64 x.o :: .int .i64 x.d :: .int .i64 x.s :: .int .i64 x.f :: .int .i64 x.i :: .int .i64 x.z :: flat xs := rfl
theorem flat_put : ∀ (xs : List I6) (k j : Nat) (v : Int), j < 6 → k < xs.length → ∃ ys : List I6, ys.length = xs.length ∧ flat ys = (flat xs).set (k * 6 + j) (.int .i64 v)
  | [], k, j, v, _, h => by simp at h
  | x :: xs, 0, j, v, hj, _ => by
    match j, hj with
    | 0, _ => exact ⟨⟨v, x.d, x.s, x.f, x.i, x.z⟩ :: xs, rfl, rfl⟩
    | 1, _ => exact ⟨⟨x.o, v, x.s, x.f, x.i, x.z⟩ :: xs, rfl, rfl⟩
    | 2, _ => exact ⟨⟨x.o, x.d, v, x.f, x.i, x.z⟩ :: xs, rfl, rfl⟩
    | 3, _ => exact ⟨⟨x.o, x.d, x.s, v, x.i, x.z⟩ :: xs, rfl, rfl⟩
    | 4, _ => exact ⟨⟨x.o, x.d, x.s, x.f, v, x.z⟩ :: xs, rfl, rfl⟩
    | 5, _ => exact ⟨⟨x.o, x.d, x.s, x.f, x.i, v⟩ :: xs, rfl, rfl⟩
    | j + 6, h => omega
  | x :: xs, k + 1, j, v, hj, hk => by
    obtain ⟨ys, h1, h2⟩ := flat_put xs k j v hj (by simpa using hk)
    refine ⟨x :: ys, by simp [h1], ?_⟩
    have e : (k + 1) * 6 + j = (k * 6 + j) + 6 := by omega
    rw [flat_cons, flat_cons, h2, e]
    rfl
theorem flat_take : ∀ (xs : List I6) (k : Nat), flat (xs.take k) = (flat xs).take (k * 6)
  | [], k => by simp [flat]
  | x :: xs, 0 => by simp [flat]
  | x :: xs, k + 1 => by
    have e : (k + 1) * 6 = k * 6 + 6 := by omega
    rw [List.take_succ_cons, flat_cons, flat_cons, flat_take xs k, e]
    rfl
theorem flat_drop : ∀ (xs : List I6) (k : Nat), flat (xs.drop k) = (flat xs).drop (k * 6)
  | [], k => by simp [flat]
  | x :: xs, 0 => by simp
  | x :: xs, k + 1 => by
    have e : (k + 1) * 6 = k * 6 + 6 := by omega
    rw [List.drop_succ_cons, flat_cons, flat_drop xs k, e]
    rfl
theorem flat_app (xs ys : List I6) : flat (xs ++ ys) = flat xs ++ flat ys := by simp [flat]
theorem flat_one (xs : List I6) : ∀ u ∈ flat xs, u.oneCell' = true := by
  intro u hu
  simp only [flat, List.mem_flatMap, List.mem_cons, List.not_mem_nil, or_false] at hu
  obtain ⟨x, _, h⟩ := hu
  rcases h with rfl | rfl | rfl | rfl | rfl | rfl <;> rfl
theorem row_front {w : World} {base e g n c k : Nat} {xs : List I6} (h : w.ownsRow base e 6 (.slice (some ⟨g, 0, none⟩) n c) n (flat xs)) (hk : k ≤ n) : ∀ j u, (flat (xs.take k))[j]? = some u → w.cell? ((⟨g, 0, none⟩ : Addr).add j) = some u := by
  intro j u hj
  rw [flat_take] at hj
  have hl : j < ((flat xs).take (k * 6)).length := (List.getElem?_eq_some_iff.1 hj).1
  rw [List.length_take] at hl
  rw [Addr.add_lit, Nat.zero_add, h.cellAt j (by omega), ← hj, List.getElem?_take, if_pos (by omega)]
theorem row_back {w : World} {base e g n c k : Nat} {xs : List I6} (h : w.ownsRow base e 6 (.slice (some ⟨g, 0, none⟩) n c) n (flat xs)) : ∀ j u, (flat (xs.drop k))[j]? = some u → w.cell? ((⟨g, k * 6, none⟩ : Addr).add j) = some u := by
  intro j u hj
  rw [flat_drop] at hj
  have hl : j < ((flat xs).drop (k * 6)).length := (List.getElem?_eq_some_iff.1 hj).1
  have h1 := h.1
  rw [List.length_drop] at hl
  rw [Addr.add_lit, h.cellAt (k * 6 + j) (by omega), ← hj, List.getElem?_drop]
theorem made06 (w : World) (base B : Nat) (e : TypeId) (hB : B = w.heap.size) (hb : base ≤ w.heap.size) : (w.alloc (.cells #[] e)).ownsRow base e 6 (.slice (some ⟨B, 0, none⟩) 0 0) 0 [] := by
  subst hB
  exact ⟨rfl, .inr ⟨w.heap.size, 0, #[], rfl, hb, World.alloc_heap_new w _, Nat.le_refl _, Nat.zero_le _, rfl, rfl⟩⟩
theorem own_apart {w : World} {base e sz n m g c : Nat} {v : Value} {xs : List Value} (h : w.ownsRow base e sz v n xs) (hg : g < base) : (Value.slice (some ⟨g, 0, none⟩) m c).ownBlock = none ∨ (Value.slice (some ⟨g, 0, none⟩) m c).ownBlock ≠ v.ownBlock := by
  right
  intro e1
  have := own_base h g e1.symm
  omega
section
variable {w0 w w' : World} {B : Nat} {a : Option Addr} {len cap p q : Nat}
theorem K3.other {L : Nat} {v : Value} (h : RS w0 w B a len cap p) (hc : w.cell? ⟨L, 1, none⟩ = some v) (hv : ∀ i, v ≠ .int .i64 i) : L ≠ B := by
  rintro rfl
  simp only [World.cell?, h.box] at hc
  simp at hc
  exact hv _ hc.symm
theorem K3.cellO {L j : Nat} (k : K3 w0 w w' B a len cap q) (hL : L < w.heap.size) (hne : L ≠ B) : w'.cell? ⟨L, j, none⟩ = w.cell? ⟨L, j, none⟩ := World.cell?_of_block (k.kp.2 L hL hne)
theorem LnAt.k3 {v : Value} (h : RS w0 w B a len cap p) (k : K3 w0 w w' B a len cap q) (hv : LnAt w v) : LnAt w' v := by
  obtain ⟨L, l, e, ⟨h1, h2⟩, h3, h4⟩ := hv
  have hne : L ≠ B := K3.other h (h2 1 (by omega)) (fun i => by simp)
  refine ⟨L, l, e, ⟨Nat.lt_of_lt_of_le h1 k.kp.1, fun i hi => ?_⟩, h3, h4⟩
  rw [k.cellO h1 hne]
  exact h2 i hi
theorem LnAll.k3 {G : Nat} (h : RS w0 w B a len cap p) (k : K3 w0 w w' B a len cap q) (hv : LnAll w G) : LnAll w' G := by
  obtain ⟨h1, h2⟩ := hv
  have hne : G ≠ B := by
    obtain ⟨v, hc, L, l, e, _⟩ := h2 1 (by omega)
    exact K3.other h hc (fun i => by simp [e])
  refine ⟨Nat.lt_of_lt_of_le h1 k.kp.1, fun j hj => ?_⟩
  obtain ⟨v, hc, hl⟩ := h2 j hj
  exact ⟨v, by rw [k.cellO h1 hne]; exact hc, hl.k3 h k⟩
end
/-- Some ops, not none, not many. -/
def AnL (base : Nat) (w' : World) (e : Ending) : Prop := ∃ (xs : List I6) (x : Option Addr) (n c : Nat), e = .returned (.slice x n c) ∧ xs.length = n ∧ 1 ≤ n ∧ n ≤ 41 ∧ w'.ownsRow base 86 6 (.slice x n c) n (flat xs)
end Go.Proofs.Ytkaekiodjjhjkaa
