/- Opening an argument of type Table. -/
import Derived.Test.YtghcknbpipaghaaRows
import Derived.Test.YtghcknbpipaghaaTA
import Derived.ProofKit
import Derived.OpenShut
import Derived.ShutString
import Derived.ChangeOld
import Derived.Below
import Derived.SliceStrings
namespace Go.Proofs.Ytghcknbpipaghaa
open Go.ChangeShapes Go.WideShapes Go.ChangeAt Go.RowKit

theorem own : ownKnob Try.prog.godebug = none := by kernel_rfl
theorem laidOut : laidOutB Try.prog = true := by kernel_rfl
theorem cells25 : Try.prog.cellsOf 51 = 5 := by kernel_rfl
theorem list5 {α : Type} {cs : List α} (h : cs.length = 5) : ∃ a b c d e, cs = [a, b, c, d, e] := by
  match cs, h with
  | [a, b, c, d, e], _ => exact ⟨a, b, c, d, e, rfl⟩

theorem arg_ints {H : Type} {enc : TypeId × Value → H} {w : World} {base : Nat} {spare : Nat → Bool} {held : Bool} {fuel : Nat} {cs : List Value} {x : DataW H × List MemPlace}
    (h : DataW.trod enc Try.prog w base spare held fuel 24 cs = some x) :
    ∃ (a : Option Addr) (cap : Nat) (xs : List Int), cs = [.slice a xs.length cap] ∧ xs.length ≤ cap ∧ cap ≤ maxLen ∧ ArgI w a xs := by
  rcases open_ints Try.underlying24 Try.underlying3 (by kernel_rfl) h with ⟨rfl, _⟩ | ⟨ad, len, cap, zs, rfl, _, hl, hm, hz, _, hcell, hw⟩
  · exact ⟨none, 0, [], rfl, by simp, by simp, .inl rfl⟩
  · have hle : len ≤ zs.length := by rw [hz]; split <;> omega
    have hlen : (zs.take len).length = len := by simp; omega
    refine ⟨some ad, cap, zs.take len, by rw [hlen], by omega, hm, ?_⟩
    by_cases h0 : zs.take len = []
    · exact .inl h0
    · have hpos : 0 < len := by
        have := List.length_pos_iff.2 h0
        omega
      have c0 := hcell 0 (by omega)
      obtain ⟨b, off, spot⟩ := ad
      have hspot : spot = none := by simpa [Addr.add] using World.cell?_spot c0
      subst hspot
      refine .inr ⟨b, off, rfl, ?_, fun k hk => ?_⟩
      · have := World.block_lt_of_cell? w _ c0
        simpa [Addr.add] using this
      · have hk' : k < zs.length := by rw [hlen] at hk; omega
        have := hcell k hk'
        rw [Addr.add_lit] at this
        rw [this, List.getElem_take]
        simp [List.getD, List.getElem?_eq_getElem hk']

theorem arg_strs {H : Type} {enc : TypeId × Value → H} {w : World} {base : Nat} {spare : Nat → Bool} {held : Bool} {fuel : Nat} {cs : List Value} {x : DataW H × List MemPlace}
    (h : DataW.trod enc Try.prog w base spare held fuel 49 cs = some x) :
    ∃ (a : Option Addr) (cap : Nat) (xs : List ByteArray), cs = [.slice a xs.length cap] ∧ xs.length ≤ cap ∧ cap ≤ maxLen ∧ ArgS w a xs ∧ ∀ s ∈ xs, s.size ≤ maxLen := by
  rcases open_strings Try.underlying49 Try.underlying9 (by kernel_rfl) h with ⟨rfl, _⟩ | ⟨ad, len, cap, zs, rfl, _, hl, hm, hz, _, hcell, hw⟩
  · exact ⟨none, 0, [], rfl, by simp, by simp, .inl rfl, by simp⟩
  · have hle : len ≤ zs.length := by rw [hz]; split <;> omega
    have hlen : (zs.take len).length = len := by simp; omega
    refine ⟨some ad, cap, zs.take len, by rw [hlen], by omega, hm, ?_, fun s hs => hw s (List.mem_of_mem_take hs)⟩
    by_cases h0 : zs.take len = []
    · exact .inl h0
    · have hpos : 0 < len := by
        have := List.length_pos_iff.2 h0
        omega
      have c0 := hcell 0 (by omega)
      obtain ⟨b, off, spot⟩ := ad
      have hspot : spot = none := by simpa [Addr.add] using World.cell?_spot c0
      subst hspot
      refine .inr ⟨b, off, rfl, ?_, fun k hk => ?_⟩
      · have := World.block_lt_of_cell? w _ c0
        simpa [Addr.add] using this
      · have hk' : k < zs.length := by rw [hlen] at hk; omega
        have := hcell k hk'
        rw [Addr.add_lit] at this
        rw [this, List.getElem_take]
        simp [List.getD, List.getElem?_eq_getElem hk']

set_option maxRecDepth 100000 in
theorem open_table {H : Type} {enc : TypeId × Value → H} {w : World} {r0 : Reach} {b0 base : Nat} {spare : Nat → Bool} {held : Bool} {v : Value} {d0 : DataW H} {p : List MemPlace}
    (hv : Value.okWide Try.prog w r0 b0 51 v) (h : DataW.Trod enc Try.prog w base spare held 51 v d0 p) :
    ∃ (k s r : Int) (ks : List Int) (vs : List ByteArray) (a b : Option Addr) (c d : Nat), v = .agg #[.int .i64 k, .int .i64 s, .int .i64 r, .slice a ks.length c, .slice b vs.length d] ∧
      ArgI w a ks ∧ ArgS w b vs ∧ ks.length ≤ maxLen ∧ vs.length ≤ maxLen ∧ ∀ s ∈ vs, s.size ≤ maxLen := by
  obtain ⟨cs, rfl, _⟩ := okWide_struct Try.underlying51 hv
  obtain ⟨fuel, hf⟩ := h
  obtain ⟨xs, n, _, _, hl, hn, hx⟩ := DataW.trod_struct Try.underlying51 hf
  rw [cells25] at hl
  obtain ⟨l⟩ := cs
  simp only [Value.cells] at hl hx
  obtain ⟨x0, x1, x2, x3, x4, rfl⟩ := list5 (by simpa using hn)
  obtain ⟨a, b, c, d, e, rfl⟩ := list5 hl
  have c3 : Try.prog.cellsOf 3 = 1 := by kernel_rfl
  have c22 : Try.prog.cellsOf 24 = 1 := by kernel_rfl
  have c23 : Try.prog.cellsOf 49 = 1 := by kernel_rfl
  have h0 : DataW.trod enc Try.prog w base spare held n 3 (List.take (Try.prog.cellsOf 3) (List.drop 0 [a, b, c, d, e])) = some x0 := hx 0 _ rfl
  have h1 : DataW.trod enc Try.prog w base spare held n 3 (List.take (Try.prog.cellsOf 3) (List.drop 1 [a, b, c, d, e])) = some x1 := hx 1 _ rfl
  have h2 : DataW.trod enc Try.prog w base spare held n 3 (List.take (Try.prog.cellsOf 3) (List.drop 2 [a, b, c, d, e])) = some x2 := hx 2 _ rfl
  have h3 : DataW.trod enc Try.prog w base spare held n 24 (List.take (Try.prog.cellsOf 24) (List.drop 3 [a, b, c, d, e])) = some x3 := hx 3 _ rfl
  have h4 : DataW.trod enc Try.prog w base spare held n 49 (List.take (Try.prog.cellsOf 49) (List.drop 4 [a, b, c, d, e])) = some x4 := hx 4 _ rfl
  rw [c3] at h0 h1 h2
  rw [c22] at h3
  rw [c23] at h4
  obtain ⟨n0, e0, _, _⟩ := DataW.trod_int Try.underlying3 h0
  obtain ⟨n1, e1, _, _⟩ := DataW.trod_int Try.underlying3 h1
  obtain ⟨n2, e2, _, _⟩ := DataW.trod_int Try.underlying3 h2
  obtain ⟨a3, cp3, ks, e3, l3, m3, hA⟩ := arg_ints h3
  obtain ⟨a4, cp4, vs, e4, l4, m4, hB, hss⟩ := arg_strs h4
  simp at e0 e1 e2 e3 e4
  subst e0 e1 e2 e3 e4
  exact ⟨n0, n1, n2, ks, vs, a3, a4, cp3, cp4, rfl, hA, hB, by omega, by omega, hss⟩

end Go.Proofs.Ytghcknbpipaghaa
