/- Opening an argument of type []Rule. -/
import Derived.Test.YtcopcajleonndaaDoorWJ
import Derived.WalkKit
import Derived.ProofKit
import Derived.OpenShut
import Derived.ShutString
import Derived.ChangeOld
import Derived.Below
import Derived.Deep.Slices
namespace Go.Proofs.YtcopcajleonndaaDoor
open Go.ChangeShapes Go.WideShapes Go.ChangeAt Go.RowKit Go.Deep
set_option linter.unusedVariables false
theorem own : ownKnob Tryd.prog.godebug = none := by kernel_rfl
theorem laidOut : laidOutB Tryd.prog = true := by kernel_rfl
theorem list5 {α : Type} {cs : List α} (h : cs.length = 5) : ∃ a b c d e, cs = [a, b, c, d, e] := by
  match cs, h with
  | [a, b, c, d, e], _ => exact ⟨a, b, c, d, e, rfl⟩
theorem cellsRu : Tryd.prog.cellsOf 38 = 5 := by kernel_rfl
theorem ru_cells {H : Type} {enc : TypeId × Value → H} {w : World} {base : Nat} {spare : Nat → Bool} {held : Bool} {fuel : Nat} {cs : List Value} {x : DataW H × List MemPlace}
    (h : DataW.trod enc Tryd.prog w base spare held fuel 38 cs = some x) : ∃ r : Ru, cs = r.arr.toList := by
  obtain ⟨xs, n, _, _, hl, hn, hf⟩ := DataW.trod_struct Tryd.underlying38 h
  rw [cellsRu] at hl
  obtain ⟨a, b, c, d, e, rfl⟩ := list5 hl
  obtain ⟨x0, x1, x2, x3, x4, rfl⟩ := list5 (by simpa using hn)
  have c3 : Tryd.prog.cellsOf 3 = 1 := by kernel_rfl
  have h0 : DataW.trod enc Tryd.prog w base spare held n 3 (List.take (Tryd.prog.cellsOf 3) (List.drop 0 [a, b, c, d, e])) = some x0 := hf 0 _ rfl
  have h1 : DataW.trod enc Tryd.prog w base spare held n 3 (List.take (Tryd.prog.cellsOf 3) (List.drop 1 [a, b, c, d, e])) = some x1 := hf 1 _ rfl
  have h2 : DataW.trod enc Tryd.prog w base spare held n 3 (List.take (Tryd.prog.cellsOf 3) (List.drop 2 [a, b, c, d, e])) = some x2 := hf 2 _ rfl
  have h3 : DataW.trod enc Tryd.prog w base spare held n 3 (List.take (Tryd.prog.cellsOf 3) (List.drop 3 [a, b, c, d, e])) = some x3 := hf 3 _ rfl
  have h4 : DataW.trod enc Tryd.prog w base spare held n 3 (List.take (Tryd.prog.cellsOf 3) (List.drop 4 [a, b, c, d, e])) = some x4 := hf 4 _ rfl
  rw [c3] at h0 h1 h2 h3 h4
  obtain ⟨n0, e0, _, w0⟩ := DataW.trod_int Tryd.underlying3 h0
  obtain ⟨n1, e1, _, w1⟩ := DataW.trod_int Tryd.underlying3 h1
  obtain ⟨n2, e2, _, w2⟩ := DataW.trod_int Tryd.underlying3 h2
  obtain ⟨n3, e3, _, w3⟩ := DataW.trod_int Tryd.underlying3 h3
  obtain ⟨n4, e4, _, w4⟩ := DataW.trod_int Tryd.underlying3 h4
  simp at e0 e1 e2 e3 e4
  subst e0 e1 e2 e3 e4
  exact ⟨⟨n0, n1, n2, n3, n4⟩, rfl⟩
/-- What a law is handed: rules, in a row that was there, or none. -/
def ArgRu (w : World) (a : Option Addr) (n : Nat) (f : Nat → Ru) : Prop := n = 0 ∨ ∃ b p, a = some ⟨b, p, none⟩ ∧ RowAt w b p n 5 fun i => (f i).arr
set_option maxRecDepth 100000 in
theorem open_ruS {H : Type} {enc : TypeId × Value → H} {w : World} {r : Reach} {b0 base : Nat} {spare : Nat → Bool} {held : Bool} {v : Value} {d0 : DataW H} {p : List MemPlace}
    (hv : Value.okWide Tryd.prog w r b0 22 v) (h : DataW.Trod enc Tryd.prog w base spare held 22 v d0 p) :
    ∃ (a : Option Addr) (n cap : Nat) (f : Nat → Ru), v = .slice a n cap ∧ n ≤ maxLen ∧ ArgRu w a n f := by
  obtain ⟨a, len, cap, rfl⟩ := okWide_slice Tryd.underlying22 hv
  obtain ⟨fuel, hf⟩ := h
  rcases open_slice Tryd.underlying22 hf with ⟨hcs, _⟩ | ⟨x, len', cap', m, n, D, Pl, hcs, _, hl, hm, hmm, _, hel⟩
  · simp [Value.cells] at hcs
    obtain ⟨rfl, rfl, rfl⟩ := hcs
    exact ⟨none, 0, 0, fun _ => ⟨0, 0, 0, 0, 0⟩, rfl, by simp, .inl rfl⟩
  · simp [Value.cells] at hcs
    obtain ⟨rfl, rfl, rfl⟩ := hcs
    have hlm : len ≤ m := by rw [hmm]; split <;> omega
    rw [cellsRu] at hel
    have each : ∀ i, ∃ y : Ru, i < len → ∀ j (hj : j < 5), w.cell? ((x.add (i * 5)).add j) = y.arr[j]? := by
      intro i
      by_cases hi : i < len
      · obtain ⟨cs, hc, ht⟩ := hel i (by omega)
        obtain ⟨y, rfl⟩ := ru_cells ht
        obtain ⟨_, hlen, hcell⟩ := World.cells?_some hc
        refine ⟨y, fun _ j hj => ?_⟩
        have := hcell j (by simpa using hj)
        rw [this, Array.getElem?_toList]
      · exact ⟨⟨0, 0, 0, 0, 0⟩, fun h => absurd h hi⟩
    obtain ⟨f, all⟩ : ∃ f : Nat → Ru, ∀ i, i < len → ∀ j (hj : j < 5), w.cell? ((x.add (i * 5)).add j) = (f i).arr[j]? := ⟨fun i => (each i).choose, fun i hi => (each i).choose_spec hi⟩
    clear each
    refine ⟨some x, len, cap, f, rfl, by omega, ?_⟩
    rcases Nat.eq_zero_or_pos len with h0 | hpos
    · exact .inl h0
    · have c0 := all 0 hpos 0 (by omega)
      have c0' : w.cell? ((x.add (0 * 5)).add 0) = some (.int .i64 (f 0).at_) := c0
      obtain ⟨b, off, spot⟩ := x
      have hspot : spot = none := by
        have := World.cell?_spot c0'
        simpa [Addr.add] using this
      subst hspot
      refine .inr ⟨b, off, rfl, ?_, fun i hi j hj => ?_⟩
      · have := World.block_lt_of_cell? w _ c0'
        simpa [Addr.add] using this
      · refine ⟨?_, hj⟩
        have := all i hi j hj
        rw [Addr.add_lit, Addr.add_lit] at this
        exact this
end Go.Proofs.YtcopcajleonndaaDoor
