/- Rows of texts that a call owns: small lemmas. -/
import Derived.Test.YtgdefengkacnfaaTV
import Derived.Test.YtgdefengkacnfaaMA
import Derived.RangeFuncBox
namespace Go.Proofs.Ytgdefengkacnfaa
open Go.RowKit
set_option linter.unusedVariables false
set_option linter.unusedSimpArgs false

theorem own_below {w w' : World} {base e size : Nat} {v : Value} {n : Nat} {cs : List Value} (h : w.ownsRow base e size v n cs) (hb : Below w.heap.size w w') : w'.ownsRow base e size v n cs :=
  h.kept (row := none) ⟨hb.os, hb.tape, hb.output, hb.size, fun k hk _ => hb.block k hk⟩ (by cases v.ownBlock <;> simp)
theorem own_base {w : World} {base e size : Nat} {v : Value} {n : Nat} {cs : List Value} (h : w.ownsRow base e size v n cs) : ∀ k, v.ownBlock = some k → base ≤ k := by
  intro k hk
  rcases h.2 with ⟨rfl, _⟩ | ⟨g, cap, cur, rfl, hb, _⟩
  · simp [Value.ownBlock] at hk
  · simp [Value.ownBlock] at hk; omega
theorem own_mono {w : World} {base base' e size : Nat} {v : Value} {n : Nat} {cs : List Value} (h : w.ownsRow base e size v n cs) (hb : base' ≤ base) : w.ownsRow base' e size v n cs := by
  refine ⟨h.1, h.2.imp id ?_⟩
  rintro ⟨g, cap, cur, h1, h2, h3⟩
  exact ⟨g, cap, cur, h1, by omega, h3⟩
theorem one_newE (W : World) (B : Nat) (t : TypeId) (x : Value) (hB : B = W.heap.size) : ∀ j u, [x][j]? = some u → (W.alloc (.cells #[x] t)).cell? ((⟨B, 0, none⟩ : Addr).add j) = some u := by
  subst hB
  intro j u hj
  have hl : j < 1 := (List.getElem?_eq_some_iff.1 hj).1
  obtain rfl : j = 0 := by omega
  simp at hj
  subst hj
  rw [Addr.add_lit, Nat.zero_add]
  exact (Boxed.new W t x).cell
theorem own_slice {W : World} {n₀ e s n : Nat} {v : Value} {xs : List Value} (h : W.ownsRow n₀ e s v n xs) : ∃ a cap, v = .slice a n cap := by
  rcases h.2 with ⟨rfl, rfl⟩ | ⟨g, cap, cur, rfl, _⟩
  · exact ⟨none, 0, rfl⟩
  · exact ⟨_, cap, rfl⟩
theorem made0 (w : World) (base B : Nat) (e : TypeId) (hB : B = w.heap.size) (hb : base ≤ w.heap.size) : (w.alloc (.cells #[] e)).ownsRow base e 1 (.slice (some ⟨B, 0, none⟩) 0 0) 0 [] := by
  subst hB
  exact World.ownsRow_made w #[] 0 hb (by unfold maxLen; omega) rfl
theorem own_strs {w : World} {n₀ : Nat} {v : Value} {xs : List ByteArray} (h : w.ownsRow n₀ 9 1 v xs.length (xs.map .string)) : ∃ a c, v = .slice a xs.length c ∧ ArgS w a xs ∧ Wr w a xs.length ∧ (∀ q, isBlk a q → n₀ ≤ q ∧ q < w.heap.size ∧ v.ownBlock = some q) := by
  have h' := h
  rcases h.2 with ⟨rfl, hn⟩ | ⟨g, cap, cur, rfl, hb, hg, _⟩
  · rw [hn]; exact ⟨none, 0, rfl, .inl (List.length_eq_zero_iff.1 hn), .inl rfl, fun q ⟨o, e⟩ => by cases e⟩
  · have hlt := (Array.getElem?_eq_some_iff.1 hg).1
    refine ⟨_, cap, rfl, .inr ⟨g, 0, rfl, hlt, fun k hk => ?_⟩, .inr ⟨g, rfl, hlt, room_own h'⟩, fun q ⟨o, e⟩ => ?_⟩
    · rw [Nat.zero_add, h'.cellAt k (by omega)]; simp [List.getElem?_eq_getElem hk]
    · simp only [Option.some.injEq, Addr.mk.injEq, and_true] at e
      obtain ⟨rfl, rfl⟩ := e
      exact ⟨hb, hlt, rfl⟩
end Go.Proofs.Ytgdefengkacnfaa
