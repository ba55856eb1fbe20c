/- Opening an argument of type Start: a program, what came, tables, numbers. -/
import Derived.Test.YtghcknbpipaghaaTG
import Derived.Test.YtghcknbpipaghaaSD
import Derived.Deep.Slices
namespace Go.Proofs.Ytghcknbpipaghaa
open Go.ChangeShapes Go.WideShapes Go.ChangeAt Go.RowKit Go.Deep
set_option linter.unusedVariables false

theorem list_of {α : Type} {n : Nat} {P : Nat → α → Prop} (h : ∀ i, i < n → ∃ y, P i y) : ∃ xs : List α, xs.length = n ∧ ∀ i (hi : i < xs.length), P i xs[i] := by
  induction n with
  | zero => exact ⟨[], rfl, fun i hi => absurd hi (by simp)⟩
  | succ n ih =>
    obtain ⟨xs, hx, hall⟩ := ih (fun i hi => h i (by omega))
    obtain ⟨y, hy⟩ := h n (by omega)
    refine ⟨xs ++ [y], by simp [hx], fun i hi => ?_⟩
    by_cases hlt : i < xs.length
    · rw [List.getElem_append_left hlt]; exact hall i hlt
    · have hin : i = n := by simp at hi; omega
      subst hin
      rw [List.getElem_append_right (by omega)]
      simpa [hx] using hy
theorem list6 {α : Type} {cs : List α} (h : cs.length = 6) : ∃ a b c d e f, cs = [a, b, c, d, e, f] := by
  match cs, h with
  | [a, b, c, d, e, f], _ => exact ⟨a, b, c, d, e, f, rfl⟩
theorem cellsI : Try.prog.cellsOf 59 = 6 := by kernel_rfl

theorem ins_cells {H : Type} {enc : TypeId × Value → H} {w : World} {base : Nat} {spare : Nat → Bool} {held : Bool} {fuel : Nat} {cs : List Value} {x : DataW H × List MemPlace}
    (h : DataW.trod enc Try.prog w base spare held fuel 59 cs = some x) :
    ∃ o d s f i z : Int, cs = [.int .i64 o, .int .i64 d, .int .i64 s, .int .i64 f, .int .i64 i, .int .i64 z] := by
  obtain ⟨xs, n, _, _, hl, hn, hf⟩ := DataW.trod_struct Try.underlying59 h
  rw [cellsI] at hl
  obtain ⟨a, b, c, d, e, g, rfl⟩ := list6 hl
  obtain ⟨x0, x1, x2, x3, x4, x5, rfl⟩ := list6 (by simpa using hn)
  have c3 : Try.prog.cellsOf 3 = 1 := by kernel_rfl
  have h0 : DataW.trod enc Try.prog w base spare held n 3 (List.take (Try.prog.cellsOf 3) (List.drop 0 [a, b, c, d, e, g])) = some x0 := hf 0 _ rfl
  have h1 : DataW.trod enc Try.prog w base spare held n 3 (List.take (Try.prog.cellsOf 3) (List.drop 1 [a, b, c, d, e, g])) = some x1 := hf 1 _ rfl
  have h2 : DataW.trod enc Try.prog w base spare held n 3 (List.take (Try.prog.cellsOf 3) (List.drop 2 [a, b, c, d, e, g])) = some x2 := hf 2 _ rfl
  have h3 : DataW.trod enc Try.prog w base spare held n 3 (List.take (Try.prog.cellsOf 3) (List.drop 3 [a, b, c, d, e, g])) = some x3 := hf 3 _ rfl
  have h4 : DataW.trod enc Try.prog w base spare held n 3 (List.take (Try.prog.cellsOf 3) (List.drop 4 [a, b, c, d, e, g])) = some x4 := hf 4 _ rfl
  have h5 : DataW.trod enc Try.prog w base spare held n 3 (List.take (Try.prog.cellsOf 3) (List.drop 5 [a, b, c, d, e, g])) = some x5 := hf 5 _ rfl
  rw [c3] at h0 h1 h2 h3 h4 h5
  obtain ⟨n0, e0, _, w0⟩ := DataW.trod_int Try.underlying3 h0
  obtain ⟨n1, e1, _, w1⟩ := DataW.trod_int Try.underlying3 h1
  obtain ⟨n2, e2, _, w2⟩ := DataW.trod_int Try.underlying3 h2
  obtain ⟨n3, e3, _, w3⟩ := DataW.trod_int Try.underlying3 h3
  obtain ⟨n4, e4, _, w4⟩ := DataW.trod_int Try.underlying3 h4
  obtain ⟨n5, e5, _, w5⟩ := DataW.trod_int Try.underlying3 h5
  simp at e0 e1 e2 e3 e4 e5
  subst e0 e1 e2 e3 e4 e5
  exact ⟨n0, n1, n2, n3, n4, n5, rfl⟩

theorem arg_insS {H : Type} {enc : TypeId × Value → H} {w : World} {base : Nat} {spare : Nat → Bool} {held : Bool} {fuel : Nat} {cs : List Value} {x : DataW H × List MemPlace}
    (h : DataW.trod enc Try.prog w base spare held fuel 22 cs = some x) :
    ∃ (a : Option Addr) (cap : Nat) (xs : List Q.I6), cs = [.slice a xs.length cap] ∧ xs.length ≤ cap ∧ cap ≤ maxLen ∧ Q.ArgRow w a xs := by
  rcases open_slice Try.underlying22 h with ⟨rfl, _⟩ | ⟨x, len, cap, m, n, D, Pl, rfl, _, hl, hm, hmm, _, hel⟩
  · exact ⟨none, 0, [], rfl, by simp, by simp, .inl rfl⟩
  · have hlm : len ≤ m := by rw [hmm]; split <;> omega
    rw [cellsI] at hel
    obtain ⟨xs, hx, hall⟩ := list_of (n := len) (P := fun i (y : Q.I6) => ∀ j (hj : j < 6), w.cell? ((x.add (i * 6)).add j) = some ([Value.int .i64 y.o, .int .i64 y.d, .int .i64 y.s, .int .i64 y.f, .int .i64 y.i, .int .i64 y.z][j]'hj)) (fun i hi => by
      obtain ⟨cs, hc, ht⟩ := hel i (by omega)
      obtain ⟨o, d, s, f, im, z, rfl⟩ := ins_cells ht
      obtain ⟨_, hlen, hcell⟩ := World.cells?_some hc
      refine ⟨⟨o, d, s, f, im, z⟩, fun j hj => ?_⟩
      have := hcell j (by simpa using hj)
      rw [this, List.getElem?_eq_getElem])
    refine ⟨some x, cap, xs, by rw [hx], by omega, hm, ?_⟩
    by_cases h0 : xs = []
    · exact .inl h0
    · have hpos : 0 < xs.length := List.length_pos_iff.2 h0
      have c0 := hall 0 hpos 0 (by omega)
      obtain ⟨b, off, spot⟩ := x
      have hspot : spot = none := by
        have := World.cell?_spot c0
        simpa [Addr.add] using this
      subst hspot
      refine .inr ⟨b, off, rfl, ?_, fun k hk => ?_⟩
      · have := World.block_lt_of_cell? w _ c0
        simpa [Addr.add] using this
      · have e : ∀ j, ((⟨b, off, none⟩ : Addr).add (k * 6)).add j = ⟨b, off + k * 6 + j, none⟩ := by
          intro j; rw [Addr.add_lit, Addr.add_lit]
        have f0 := hall k hk 0 (by omega)
        have f1 := hall k hk 1 (by omega)
        have f2 := hall k hk 2 (by omega)
        have f3 := hall k hk 3 (by omega)
        have f4 := hall k hk 4 (by omega)
        have f5 := hall k hk 5 (by omega)
        rw [e] at f0 f1 f2 f3 f4 f5
        exact ⟨f0, f1, f2, f3, f4, f5⟩

/-- What a Table reads as. -/
theorem tab_cells {H : Type} {enc : TypeId × Value → H} {w : World} {base : Nat} {spare : Nat → Bool} {held : Bool} {fuel : Nat} {cs : List Value} {x : DataW H × List MemPlace}
    (h : DataW.trod enc Try.prog w base spare held fuel 51 cs = some x) :
    ∃ (t : TT) (a b : Option Addr) (c d : Nat), cs = [.int .i64 t.k, .int .i64 t.s, .int .i64 t.r, .slice a t.ks.length c, .slice b t.vs.length d] ∧ ArgI w a t.ks ∧ ArgS w b t.vs ∧ t.ks.length ≤ c ∧ t.big := by
  obtain ⟨xs, n, _, _, hl, hn, hx⟩ := DataW.trod_struct Try.underlying51 h
  rw [cells25] at hl
  obtain ⟨x0, x1, x2, x3, x4, rfl⟩ := list5 (by simpa using hn)
  obtain ⟨a, b, c, d, e, rfl⟩ := list5 hl
  have c3 : Try.prog.cellsOf 3 = 1 := by kernel_rfl
  have c22 : Try.prog.cellsOf 24 = 1 := by kernel_rfl
  have c23 : Try.prog.cellsOf 49 = 1 := by kernel_rfl
  have h0 : DataW.trod enc Try.prog w base spare held n 3 (List.take (Try.prog.cellsOf 3) (List.drop 0 [a, b, c, d, e])) = some x0 := hx 0 _ rfl
  have h1 : DataW.trod enc Try.prog w base spare held n 3 (List.take (Try.prog.cellsOf 3) (List.drop 1 [a, b, c, d, e])) = some x1 := hx 1 _ rfl
  have h2 : DataW.trod enc Try.prog w base spare held n 3 (List.take (Try.prog.cellsOf 3) (List.drop 2 [a, b, c, d, e])) = some x2 := hx 2 _ rfl
  have h3 : DataW.trod enc Try.prog w base spare held n 24 (List.take (Try.prog.cellsOf 24) (List.drop 3 [a, b, c, d, e])) = some x3 := hx 3 _ rfl
  have h4 : DataW.trod enc Try.prog w base spare held n 49 (List.take (Try.prog.cellsOf 49) (List.drop 4 [a, b, c, d, e])) = some x4 := hx 4 _ rfl
  rw [c3] at h0 h1 h2
  rw [c22] at h3
  rw [c23] at h4
  obtain ⟨n0, e0, _, _⟩ := DataW.trod_int Try.underlying3 h0
  obtain ⟨n1, e1, _, _⟩ := DataW.trod_int Try.underlying3 h1
  obtain ⟨n2, e2, _, _⟩ := DataW.trod_int Try.underlying3 h2
  obtain ⟨a3, cp3, ks, e3, l3, m3, hA⟩ := arg_ints h3
  obtain ⟨a4, cp4, vs, e4, l4, m4, hB, hss⟩ := arg_strs h4
  simp at e0 e1 e2 e3 e4
  subst e0 e1 e2 e3 e4
  exact ⟨⟨n0, n1, n2, ks, vs⟩, a3, a4, cp3, cp4, rfl, hA, hB, l3, by show ks.length ≤ maxLen; omega, by show vs.length ≤ maxLen; omega, hss⟩

theorem arg_tabS {H : Type} {enc : TypeId × Value → H} {w : World} {base : Nat} {spare : Nat → Bool} {held : Bool} {fuel : Nat} {cs : List Value} {x : DataW H × List MemPlace}
    (h : DataW.trod enc Try.prog w base spare held fuel 23 cs = some x) :
    ∃ (a : Option Addr) (cap : Nat) (ts : List TT), cs = [.slice a ts.length cap] ∧ ts.length ≤ cap ∧ cap ≤ maxLen ∧ ArgT w a ts ∧ ∀ t ∈ ts, t.big := by
  rcases open_slice Try.underlying23 h with ⟨rfl, _⟩ | ⟨x, len, cap, m, n, D, Pl, rfl, _, hl, hm, hmm, _, hel⟩
  · exact ⟨none, 0, [], rfl, by simp, by simp, .inl rfl, by simp⟩
  · have hlm : len ≤ m := by rw [hmm]; split <;> omega
    rw [cells25] at hel
    obtain ⟨ts, hx, hall⟩ := list_of (n := len) (P := fun i (t : TT) => ∃ (a b : Option Addr) (c d : Nat), (∀ j (hj : j < 5), w.cell? ((x.add (i * 5)).add j) = some ([Value.int .i64 t.k, .int .i64 t.s, .int .i64 t.r, .slice a t.ks.length c, .slice b t.vs.length d][j]'hj)) ∧ ArgI w a t.ks ∧ ArgS w b t.vs ∧ t.ks.length ≤ c ∧ t.big) (fun i hi => by
      obtain ⟨cs, hc, ht⟩ := hel i (by omega)
      obtain ⟨t, a, b, c, d, rfl, hA, hB, hle, hbig⟩ := tab_cells ht
      obtain ⟨_, hlen, hcell⟩ := World.cells?_some hc
      refine ⟨t, a, b, c, d, fun j hj => ?_, hA, hB, hle, hbig⟩
      have := hcell j (by simpa using hj)
      rw [this, List.getElem?_eq_getElem])
    refine ⟨some x, cap, ts, by rw [hx], by omega, hm, ?_, fun t ht => ?_⟩
    · by_cases h0 : ts = []
      · exact .inl h0
      · have hpos : 0 < ts.length := List.length_pos_iff.2 h0
        obtain ⟨_, _, _, _, c0', _⟩ := hall 0 hpos
        have c0 := c0' 0 (by omega)
        obtain ⟨b, off, spot⟩ := x
        have hspot : spot = none := by
          have := World.cell?_spot c0
          simpa [Addr.add] using this
        subst hspot
        refine .inr ⟨b, off, rfl, ?_, fun k hk => ?_⟩
        · have := World.block_lt_of_cell? w _ c0
          simpa [Addr.add] using this
        · have e : ∀ j, ((⟨b, off, none⟩ : Addr).add (k * 5)).add j = ⟨b, off + k * 5 + j, none⟩ := by
            intro j; rw [Addr.add_lit, Addr.add_lit]
          obtain ⟨a1, a2, d1, d2, hc, hA, hB, hle, _⟩ := hall k hk
          have f0 := hc 0 (by omega)
          have f1 := hc 1 (by omega)
          have f2 := hc 2 (by omega)
          have f3 := hc 3 (by omega)
          have f4 := hc 4 (by omega)
          rw [e] at f0 f1 f2 f3 f4
          exact ⟨a1, a2, d1, d2, f0, f1, f2, f3, f4, hA, hB, hle⟩
    · obtain ⟨j, hj, rfl⟩ := List.getElem_of_mem ht
      obtain ⟨_, _, _, _, _, _, _, _, hb⟩ := hall j hj
      exact hb

theorem cellsS : Try.prog.cellsOf 26 = 5 := by kernel_rfl
set_option maxRecDepth 100000 in
theorem open_start {H : Type} {enc : TypeId × Value → H} {w : World} {r0 : Reach} {b0 base : Nat} {spare : Nat → Bool} {held : Bool} {v : Value} {d0 : DataW H} {p : List MemPlace}
    (hv : Value.okWide Try.prog w r0 b0 26 v) (h : DataW.Trod enc Try.prog w base spare held 26 v d0 p) :
    ∃ (xs : List Q.I6) (came : ByteArray) (ts : List TT) (rs ss : List Int) (a1 a2 a3 a4 : Option Addr) (c1 c2 c3 c4 : Nat), v = .agg #[.slice a1 xs.length c1, .string came, .slice a2 ts.length c2, .slice a3 rs.length c3, .slice a4 ss.length c4] ∧
      StA w a1 a2 a3 a4 xs ts rs ss ∧ StB xs came ts rs ss := by
  obtain ⟨cs, rfl, _⟩ := okWide_struct Try.underlying26 hv
  obtain ⟨fuel, hf⟩ := h
  obtain ⟨xs, n, _, _, hl, hn, hx⟩ := DataW.trod_struct Try.underlying26 hf
  rw [cellsS] at hl
  obtain ⟨l⟩ := cs
  simp only [Value.cells] at hl hx
  obtain ⟨x0, x1, x2, x3, x4, rfl⟩ := list5 (by simpa using hn)
  obtain ⟨a, b, c, d, e, rfl⟩ := list5 hl
  have k0 : Try.prog.cellsOf 22 = 1 := by kernel_rfl
  have k1 : Try.prog.cellsOf 9 = 1 := by kernel_rfl
  have k2 : Try.prog.cellsOf 23 = 1 := by kernel_rfl
  have k3 : Try.prog.cellsOf 24 = 1 := by kernel_rfl
  have h0 : DataW.trod enc Try.prog w base spare held n 22 (List.take (Try.prog.cellsOf 22) (List.drop 0 [a, b, c, d, e])) = some x0 := hx 0 _ rfl
  have h1 : DataW.trod enc Try.prog w base spare held n 9 (List.take (Try.prog.cellsOf 9) (List.drop 1 [a, b, c, d, e])) = some x1 := hx 1 _ rfl
  have h2 : DataW.trod enc Try.prog w base spare held n 23 (List.take (Try.prog.cellsOf 23) (List.drop 2 [a, b, c, d, e])) = some x2 := hx 2 _ rfl
  have h3 : DataW.trod enc Try.prog w base spare held n 24 (List.take (Try.prog.cellsOf 24) (List.drop 3 [a, b, c, d, e])) = some x3 := hx 3 _ rfl
  have h4 : DataW.trod enc Try.prog w base spare held n 24 (List.take (Try.prog.cellsOf 24) (List.drop 4 [a, b, c, d, e])) = some x4 := hx 4 _ rfl
  rw [k0] at h0
  rw [k1] at h1
  rw [k2] at h2
  rw [k3] at h3 h4
  obtain ⟨a0, cp0, ps, e0, l0, m0, hX⟩ := arg_insS h0
  obtain ⟨s1, e1, _, hs1⟩ := DataW.trod_string Try.underlying9 h1
  obtain ⟨a2, cp2, ts, e2, l2, m2, hT, hbig⟩ := arg_tabS h2
  obtain ⟨a3, cp3, rs, e3, l3, m3, hR⟩ := arg_ints h3
  obtain ⟨a4, cp4, ss, e4, l4, m4, hS⟩ := arg_ints h4
  simp at e0 e1 e2 e3 e4
  subst e0 e1 e2 e3 e4
  exact ⟨ps, s1, ts, rs, ss, a0, a2, a3, a4, cp0, cp2, cp3, cp4, rfl, ⟨hX, hT, hR, hS⟩, ⟨by omega, hs1, by omega, hbig, by omega, by omega⟩⟩

end Go.Proofs.Ytghcknbpipaghaa
