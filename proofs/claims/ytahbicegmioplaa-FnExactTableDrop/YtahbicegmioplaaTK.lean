/- Tables that a law holds: rows of their own; contracts over them. -/
import Derived.Test.YtahbicegmioplaaUO
import Derived.Test.YtahbicegmioplaaUK
import Derived.Test.YtahbicegmioplaaUM
import Derived.Test.YtahbicegmioplaaTR
import Derived.Test.YtahbicegmioplaaSG
import Derived.Test.YtahbicegmioplaaPN
namespace Go.Proofs.Ytahbicegmioplaa
open Go.RowKit
set_option linter.unusedSimpArgs false
set_option linter.unusedVariables false

theorem _root_.Go.RowKit.Below.to {w w1 w2 : World} (h : Below w.heap.size w w1) (h2 : Below w1.heap.size w1 w2) : Below w.heap.size w w2 := h.trans (h2.mono h.size)

/-- Both lists of a table are rows of their own, or nil. -/
def RW (w : World) (ks : List Int) (vs : List ByteArray) (a b : Option Addr) (c d : Nat) : Prop :=
  w.ownsRow 0 3 1 (.slice a ks.length c) ks.length (ks.map (.int .i64)) ∧ w.ownsRow 0 9 1 (.slice b vs.length d) vs.length (vs.map .string)
section
variable {w w' : World} {ks : List Int} {vs : List ByteArray} {a b : Option Addr} {c d : Nat}
theorem RW.below (h : RW w ks vs a b c d) (hb : Below w.heap.size w w') : RW w' ks vs a b c d := ⟨own_below h.1 hb, own_below h.2 hb⟩
theorem RW.alloc (h : RW w ks vs a b c d) (X : Obj) : RW (w.alloc X) ks vs a b c d := h.below ((Below.refl _ _).alloc (Nat.le_refl _) _)
theorem RW.I (h : RW w ks vs a b c d) : ArgI w a ks := own_ints' h.1
theorem RW.S (h : RW w ks vs a b c d) : ArgS w b vs := own_strs' h.2
theorem RW.cap (h : RW w ks vs a b c d) : ks.length ≤ c := by
  obtain ⟨a', c', e, _, _, _, hc⟩ := own_ints h.1
  cases e
  exact hc
end
theorem Tab.rw {n₀ : Nat} {w : World} {k s r : Int} {ks : List Int} {vs : List ByteArray} {V : Value} (h : Tab n₀ w k s r ks vs V) : ∃ a b c d, V = .agg #[.int .i64 k, .int .i64 s, .int .i64 r, .slice a ks.length c, .slice b vs.length d] ∧ RW w ks vs a b c d := by
  obtain ⟨v, u, rfl, h1, h2⟩ := h
  obtain ⟨a, c, rfl⟩ := own_slice h1
  obtain ⟨b, d, rfl⟩ := own_slice h2
  exact ⟨a, b, c, d, rfl, own_mono h1 (Nat.zero_le _), own_mono h2 (Nat.zero_le _)⟩

/-- A table in a box. -/
structure TB (w : World) (B : Nat) (k s r : Int) (ks : List Int) (vs : List ByteArray) (a b : Option Addr) (c d : Nat) : Prop where
  box : B5 28 w B k s r (.slice a ks.length c) (.slice b vs.length d)
  rw : RW w ks vs a b c d
section
variable {w w' : World} {B : Nat} {k s r : Int} {ks : List Int} {vs : List ByteArray} {a b : Option Addr} {c d : Nat}
theorem TB.below (h : TB w B k s r ks vs a b c d) (hb : Below w.heap.size w w') : TB w' B k s r ks vs a b c d := ⟨(hb.block B (B5.lt h.box)).trans h.box, h.rw.below hb⟩
theorem TB.alloc (h : TB w B k s r ks vs a b c d) (X : Obj) : TB (w.alloc X) B k s r ks vs a b c d := h.below ((Below.refl _ _).alloc (Nat.le_refl _) _)
theorem TB.drew (h : TB w B k s r ks vs a b c d) : TB w.drew B k s r ks vs a b c d := h.below (Below.refl _ _).drew
theorem TB.lt (h : TB w B k s r ks vs a b c d) : B < w.heap.size := B5.lt h.box
theorem TB.cl (h : TB w B k s r ks vs a b c d) : w.cell? ⟨B, 0, none⟩ = some (.int .i64 k) ∧ w.cell? ⟨B, 1, none⟩ = some (.int .i64 s) ∧ w.cell? ⟨B, 2, none⟩ = some (.int .i64 r) ∧ w.cell? ⟨B, 3, none⟩ = some (.slice a ks.length c) ∧ w.cell? ⟨B, 4, none⟩ = some (.slice b vs.length d) := B5.cells h.box
theorem TB.new (h : RW w ks vs a b c d) (k s r : Int) : TB (w.alloc (.cells #[.int .i64 k, .int .i64 s, .int .i64 r, .slice a ks.length c, .slice b vs.length d] 28)) w.heap.size k s r ks vs a b c d := ⟨B5.new w _ k s r _ _, h.alloc _⟩
end
theorem ok_o (k s r : Int) (ks : List Int) (vs : List ByteArray) (a b : Option Addr) (c d : Nat) (w : World) (h : RW w ks vs a b c d) (hk : ks.length ≤ 1048576) (hv : vs.length ≤ 1048576) :
    Calls Try.prog 14 #[.agg #[.int .i64 k, .int .i64 s, .int .i64 r, .slice a ks.length c, .slice b vs.length d]] w fun e w' => e = .returned (.bool (okB k s r ks vs)) ∧ Below w.heap.size w w' := by
  refine (f12b k s r ks vs a b c d w h.I h.S h.cap hk hv).mono ?_
  exact fun _ _ h => h
theorem sok_o (k s r : Int) (ks : List Int) (vs : List ByteArray) (a b : Option Addr) (c d : Nat) (w : World) (h : RW w ks vs a b c d) (hk : ks.length ≤ 1048576) (hv : vs.length ≤ 1048576) :
    Calls Try.prog 18 #[.agg #[.int .i64 k, .int .i64 s, .int .i64 r, .slice a ks.length c, .slice b vs.length d]] w fun e w' => e = .returned (.bool (okB k s r ks vs)) ∧ Below w.heap.size w w' := by
  refine (f10 k s r ks vs a b c d w h.I h.S).mono ?_
  exact fun _ _ h => ⟨Ans.okB h.1, h.2⟩
theorem look_o (k s r : Int) (ks : List Int) (vs : List ByteArray) (a b : Option Addr) (c d : Nat) (key : Int) (w : World) (h : RW w ks vs a b c d) (hk : ks.length ≤ 1048576) (hv : vs.length ≤ 1048576) :
    Calls Try.prog 13 #[.agg #[.int .i64 k, .int .i64 s, .int .i64 r, .slice a ks.length c, .slice b vs.length d], .int .i64 key] w fun e w' => e = .returned (.tuple #[.string (lookT k s r ks vs key).1, .bool (lookT k s r ks vs key).2]) ∧ Below w.heap.size w w' := by
  refine (f19 k s r ks vs a b c d key w h.I h.S h.cap hk hv).mono ?_
  exact fun _ _ h => h
theorem slook_o (k s r : Int) (ks : List Int) (vs : List ByteArray) (a b : Option Addr) (c d : Nat) (key : Int) (w : World) (h : RW w ks vs a b c d) (hk : ks.length ≤ 1048576) (hv : vs.length ≤ 1048576) :
    Calls Try.prog 26 #[.agg #[.int .i64 k, .int .i64 s, .int .i64 r, .slice a ks.length c, .slice b vs.length d], .int .i64 key] w fun e w' => e = .returned (.tuple #[.string (lookT k s r ks vs key).1, .bool (lookT k s r ks vs key).2]) ∧ Below w.heap.size w w' := by
  refine (f18 k s r ks vs a b c d key w h.I h.S hk hv).mono ?_
  exact fun _ _ h => h
theorem next_o (k s r : Int) (ks : List Int) (vs : List ByteArray) (a b : Option Addr) (c d : Nat) (key : Int) (w : World) (h : RW w ks vs a b c d) (hk : ks.length ≤ 1048576) (hv : vs.length ≤ 1048576) :
    Calls Try.prog 24 #[.agg #[.int .i64 k, .int .i64 s, .int .i64 r, .slice a ks.length c, .slice b vs.length d], .int .i64 key] w fun e w' => e = .returned (.tuple #[.int .i64 (nextT k s r ks vs key).1, .bool (nextT k s r ks vs key).2]) ∧ Below w.heap.size w w' := by
  refine (f25 k s r ks vs a b c d key w h.I h.S h.cap hk hv).mono ?_
  exact fun _ _ h => h
theorem snext_o (k s r : Int) (ks : List Int) (vs : List ByteArray) (a b : Option Addr) (c d : Nat) (key : Int) (w : World) (h : RW w ks vs a b c d) (hk : ks.length ≤ 1048576) (hv : vs.length ≤ 1048576) :
    Calls Try.prog 25 #[.agg #[.int .i64 k, .int .i64 s, .int .i64 r, .slice a ks.length c, .slice b vs.length d], .int .i64 key] w fun e w' => e = .returned (.tuple #[.int .i64 (nextT k s r ks vs key).1, .bool (nextT k s r ks vs key).2]) ∧ Below w.heap.size w w' := by
  refine (f24 k s r ks vs a b c d key w h.I h.S hk hv).mono ?_
  exact fun _ _ h => h
theorem put_o (k s r : Int) (ks : List Int) (vs : List ByteArray) (a b : Option Addr) (c d : Nat) (key : Int) (val : ByteArray) (hval : val.size ≤ 1048576) (w : World) (h : RW w ks vs a b c d) (hk : ks.length ≤ 1048576) (hv : vs.length ≤ 1048576) :
    Calls Try.prog 16 #[.agg #[.int .i64 k, .int .i64 s, .int .i64 r, .slice a ks.length c, .slice b vs.length d], .int .i64 key, .string val] w fun e w' => ∃ a' b' c' d', e = .returned (.tuple #[.agg #[.int .i64 (putT k s r ks vs key val).k, .int .i64 (putT k s r ks vs key val).s, .int .i64 (putT k s r ks vs key val).r, .slice a' (putT k s r ks vs key val).ks.length c', .slice b' (putT k s r ks vs key val).vs.length d'], .int .i64 (putT k s r ks vs key val).code]) ∧ RW w' (putT k s r ks vs key val).ks (putT k s r ks vs key val).vs a' b' c' d' ∧ Below w.heap.size w w' := by
  refine (f21 k s r ks vs a b c d key val w h.I h.S h.cap hk hv hval).mono ?_
  rintro e w' ⟨V, rfl, ht, hb⟩
  obtain ⟨a', b', c', d', rfl, hr⟩ := Tab.rw ht
  exact ⟨a', b', c', d', rfl, hr, hb⟩
theorem sput_o (k s r : Int) (ks : List Int) (vs : List ByteArray) (a b : Option Addr) (c d : Nat) (key : Int) (val : ByteArray) (hval : val.size ≤ 1048576) (w : World) (h : RW w ks vs a b c d) (hk : ks.length ≤ 1048576) (hv : vs.length ≤ 1048576) :
    Calls Try.prog 17 #[.agg #[.int .i64 k, .int .i64 s, .int .i64 r, .slice a ks.length c, .slice b vs.length d], .int .i64 key, .string val] w fun e w' => ∃ a' b' c' d', e = .returned (.tuple #[.agg #[.int .i64 (putT k s r ks vs key val).k, .int .i64 (putT k s r ks vs key val).s, .int .i64 (putT k s r ks vs key val).r, .slice a' (putT k s r ks vs key val).ks.length c', .slice b' (putT k s r ks vs key val).vs.length d'], .int .i64 (putT k s r ks vs key val).code]) ∧ RW w' (putT k s r ks vs key val).ks (putT k s r ks vs key val).vs a' b' c' d' ∧ Below w.heap.size w w' := by
  refine (f20o k s r ks vs a b 0 0 c d key val w h.1 h.2 hk hv hval).mono ?_
  rintro e w' ⟨V, rfl, ht, hb⟩
  obtain ⟨a', b', c', d', rfl, hr⟩ := Tab.rw ht
  exact ⟨a', b', c', d', rfl, hr, hb⟩
theorem drop_o (k s r : Int) (ks : List Int) (vs : List ByteArray) (a b : Option Addr) (c d : Nat) (key : Int) (w : World) (h : RW w ks vs a b c d) (hk : ks.length ≤ 1048576) (hv : vs.length ≤ 1048576) :
    Calls Try.prog 21 #[.agg #[.int .i64 k, .int .i64 s, .int .i64 r, .slice a ks.length c, .slice b vs.length d], .int .i64 key] w fun e w' => ∃ a' b' c' d', e = .returned (.tuple #[.agg #[.int .i64 (dropT k s r ks vs key).1.k, .int .i64 (dropT k s r ks vs key).1.s, .int .i64 (dropT k s r ks vs key).1.r, .slice a' (dropT k s r ks vs key).1.ks.length c', .slice b' (dropT k s r ks vs key).1.vs.length d'], .bool (dropT k s r ks vs key).2]) ∧ RW w' (dropT k s r ks vs key).1.ks (dropT k s r ks vs key).1.vs a' b' c' d' ∧ Below w.heap.size w w' := by
  refine (f23 k s r ks vs a b c d key w h.I h.S h.cap hk hv).mono ?_
  rintro e w' ⟨V, rfl, ht, hb⟩
  obtain ⟨a', b', c', d', rfl, hr⟩ := Tab.rw ht
  exact ⟨a', b', c', d', rfl, hr, hb⟩
theorem new_o (k s r : Int) (w : World) : Calls Try.prog 10 #[.int .i64 k, .int .i64 s, .int .i64 r] w fun e w' => ∃ a' b' c' d', e = .returned (.agg #[.int .i64 (newT k s r).k, .int .i64 (newT k s r).s, .int .i64 (newT k s r).r, .slice a' (newT k s r).ks.length c', .slice b' (newT k s r).vs.length d']) ∧ RW w' (newT k s r).ks (newT k s r).vs a' b' c' d' ∧ Below w.heap.size w w' := by
  refine (f15 k s r w).mono ?_
  rintro e w' ⟨V, rfl, ht, hb⟩
  obtain ⟨a', b', c', d', rfl, hr⟩ := Tab.rw ht
  exact ⟨a', b', c', d', rfl, hr, hb⟩
theorem snew_o (k s r : Int) (w : World) : Calls Try.prog 12 #[.int .i64 k, .int .i64 s, .int .i64 r] w fun e w' => ∃ a' b' c' d', e = .returned (.agg #[.int .i64 (newT k s r).k, .int .i64 (newT k s r).s, .int .i64 (newT k s r).r, .slice a' (newT k s r).ks.length c', .slice b' (newT k s r).vs.length d']) ∧ RW w' (newT k s r).ks (newT k s r).vs a' b' c' d' ∧ Below w.heap.size w w' := by
  refine (f14 k s r w).mono ?_
  rintro e w' ⟨V, rfl, ht, hb⟩
  obtain ⟨a', b', c', d', rfl, hr⟩ := Tab.rw ht
  exact ⟨a', b', c', d', rfl, hr, hb⟩
theorem sg_o (k s r : Int) (ks : List Int) (vs : List ByteArray) (a b a2 b2 : Option Addr) (c d c2 d2 : Nat) (w : World) (h : RW w ks vs a b c d) (h2 : RW w ks vs a2 b2 c2 d2) (hk : ks.length ≤ 1048576) (hv : vs.length ≤ 1048576) :
    Calls Try.prog 11 #[.agg #[.int .i64 k, .int .i64 s, .int .i64 r, .slice a ks.length c, .slice b vs.length d], .agg #[.int .i64 k, .int .i64 s, .int .i64 r, .slice a2 ks.length c2, .slice b2 vs.length d2]] w fun e w' => e = .returned (.bool true) ∧ Below w.heap.size w w' :=
  sgTable_c k s r ks vs a a2 b b2 c c2 d d2 w h.I h2.I h.S h2.S hk hv
end Go.Proofs.Ytahbicegmioplaa
