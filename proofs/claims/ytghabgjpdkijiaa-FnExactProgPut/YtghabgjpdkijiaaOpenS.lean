/- Opening an argument of type []Ins. -/
import Derived.Test.YtghabgjpdkijiaaOpen
import Derived.Test.YtghabgjpdkijiaaToS2
import Derived.Deep.Slices
namespace Go.Proofs.Ytghabgjpdkijiaa
open Go.ChangeShapes Go.WideShapes Go.ChangeAt Go.RowKit Go.Deep

theorem open_insS {H : Type} {enc : TypeId × Value → H} {w : World} {r : Reach} {b0 base : Nat} {spare : Nat → Bool} {held : Bool} {v : Value} {d0 : DataW H} {p : List MemPlace}
    (hv : Value.okWide Try.prog w r b0 33 v) (h : DataW.Trod enc Try.prog w base spare held 33 v d0 p) :
    ∃ (a : Option Addr) (cap : Nat) (xs : List I6), v = .slice a xs.length cap ∧ xs.length ≤ maxLen ∧ ArgRow w a xs := by
  obtain ⟨a, len, cap, rfl⟩ := okWide_slice Try.underlying33 hv
  obtain ⟨fuel, hf⟩ := h
  rcases open_slice Try.underlying33 hf with ⟨hcs, _⟩ | ⟨x, len', cap', m, n, D, Pl, hcs, _, hl, hm, hmm, _, hel⟩
  · simp [Value.cells] at hcs
    obtain ⟨rfl, rfl, rfl⟩ := hcs
    exact ⟨none, 0, [], rfl, by simp, .inl rfl⟩
  · simp [Value.cells] at hcs
    obtain ⟨rfl, rfl, rfl⟩ := hcs
    have hlm : len ≤ m := by rw [hmm]; split <;> omega
    rw [cells23] at hel
    -- one op a place
    have each : ∀ i, i < len → ∃ y : I6, ∀ j (hj : j < 6), w.cell? ((x.add (i * 6)).add j) = some ([Value.int .i64 y.o, .int .i64 y.d, .int .i64 y.s, .int .i64 y.f, .int .i64 y.i, .int .i64 y.z][j]'hj) := by
      intro i hi
      obtain ⟨cs, hc, ht⟩ := hel i (by omega)
      obtain ⟨o, d, s, f, im, z, rfl, _⟩ := ins_cells ht
      obtain ⟨_, hlen, hcell⟩ := World.cells?_some hc
      refine ⟨⟨o, d, s, f, im, z⟩, fun j hj => ?_⟩
      have := hcell j (by simpa using hj)
      rw [this, List.getElem?_eq_getElem]
    have lst : ∀ n, n ≤ len → ∃ xs : List I6, xs.length = n ∧ ∀ i (h : i < xs.length), ∀ j (hj : j < 6), w.cell? ((x.add (i * 6)).add j) = some ([Value.int .i64 xs[i].o, .int .i64 xs[i].d, .int .i64 xs[i].s, .int .i64 xs[i].f, .int .i64 xs[i].i, .int .i64 xs[i].z][j]'hj) := by
      intro n
      induction n with
      | zero => intro _; exact ⟨[], rfl, fun i h => absurd h (by simp)⟩
      | succ n ih =>
        intro hn
        obtain ⟨xs, hx, hall⟩ := ih (by omega)
        obtain ⟨y, hy⟩ := each n (by omega)
        refine ⟨xs ++ [y], by simp [hx], fun i h j hj => ?_⟩
        by_cases hi : i < xs.length
        · have := hall i hi j hj
          simpa [List.getElem_append_left hi] using this
        · have hin : i = n := by simp at h; omega
          subst hin
          have := hy j hj
          have e : (xs ++ [y])[i]'h = y := by
            rw [List.getElem_append_right (by omega)]
            simp [hx]
          rw [e]
          exact this
    obtain ⟨xs, hx, hall⟩ := lst len (Nat.le_refl _)
    refine ⟨some x, cap, xs, by rw [hx], by omega, ?_⟩
    by_cases h0 : xs = []
    · exact .inl h0
    · have hpos : 0 < xs.length := List.length_pos_iff.2 h0
      have c0 := hall 0 hpos 0 (by omega)
      obtain ⟨b, off, spot⟩ := x
      have hspot : spot = none := by
        have := World.cell?_spot c0
        simpa [Addr.add] using this
      subst hspot
      refine .inr ⟨b, off, rfl, ?_, fun k hk => ?_⟩
      · have := World.block_lt_of_cell? w _ c0
        simpa [Addr.add] using this
      · have e : ∀ j, ((⟨b, off, none⟩ : Addr).add (k * 6)).add j = ⟨b, off + k * 6 + j, none⟩ := by
          intro j; rw [Addr.add_lit, Addr.add_lit]
        have f0 := hall k hk 0 (by omega)
        have f1 := hall k hk 1 (by omega)
        have f2 := hall k hk 2 (by omega)
        have f3 := hall k hk 3 (by omega)
        have f4 := hall k hk 4 (by omega)
        have f5 := hall k hk 5 (by omega)
        rw [e] at f0 f1 f2 f3 f4 f5
        exact ⟨f0, f1, f2, f3, f4, f5⟩

end Go.Proofs.Ytghabgjpdkijiaa
