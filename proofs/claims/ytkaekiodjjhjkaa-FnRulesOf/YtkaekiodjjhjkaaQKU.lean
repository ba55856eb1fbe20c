/- Tables of the draws: what a draw keeps of them. -/
import Derived.Test.YtkaekiodjjhjkaaQGrp6
import Derived.Test.YtkaekiodjjhjkaaQKT
import Derived.Test.YtkaekiodjjhjkaaQB4
namespace Go.Proofs.Ytkaekiodjjhjkaa.G
open Go.RowKit
set_option linter.unusedVariables false
set_option linter.unusedSimpArgs false


section
variable {w0 w w' : World} {B : Nat} {a : Option Addr} {len cap p q : Nat}
theorem _root_.Go.Proofs.Ytkaekiodjjhjkaa.K3.grown (h : RS w0 w B a len cap p) (k : K3 w0 w w' B a len cap q) : w.grownBy w' (some B) :=
  ⟨k.rs.bel.os.trans h.bel.os.symm, k.rs.bel.tape.trans h.bel.tape.symm, k.rs.bel.output.trans h.bel.output.symm, k.kp.1, fun b hb hne => k.kp.2 b hb (fun e => hne (e ▸ rfl))⟩
theorem row_kept {e : TypeId} {base size n : Nat} {v : Value} {xs : List Value} (hne : (67 : TypeId) ≠ e) (h : RS w0 w B a len cap p) (k : K3 w0 w w' B a len cap q) (hr : w.ownsRow base e size v n xs) : w'.ownsRow base e size v n xs := by
  refine hr.kept (K3.grown h k) (.inr ?_)
  intro hb
  rcases hr.2 with ⟨rfl, _⟩ | ⟨g, cp, cur, rfl, _, hg, _⟩
  · simp [Value.ownBlock] at hb
  · simp only [Value.ownBlock, Option.some.injEq] at hb
    subst hb
    rw [h.box] at hg
    simp only [Option.some.injEq, Obj.cells.injEq] at hg
    exact hne hg.2.1
theorem RW.kept {ks : List Int} {vs : List ByteArray} {x y : Option Addr} {c d : Nat} (hr : RW w ks vs x y c d) (h : RS w0 w B a len cap p) (k : K3 w0 w w' B a len cap q) : RW w' ks vs x y c d :=
  ⟨row_kept (by decide) h k hr.1, row_kept (by decide) h k hr.2⟩
theorem Box5.k3 {X : Nat} {k s r : Int} {v u : Value} (hx : Box5 w X k s r v u) (hX : X ≠ B) (k3 : K3 w0 w w' B a len cap q) : Box5 w' X k s r v u := (k3.kp.2 X (Box5.lt hx) hX).trans hx
theorem TB.kept {X : Nat} {k s r : Int} {ks : List Int} {vs : List ByteArray} {x y : Option Addr} {c d : Nat} (ht : TB w X k s r ks vs x y c d) (hX : X ≠ B) (h : RS w0 w B a len cap p) (k3 : K3 w0 w w' B a len cap q) : TB w' X k s r ks vs x y c d :=
  ⟨Box5.k3 ht.box hX k3, ht.rw.kept h k3⟩
theorem Box5.bel {X : Nat} {k s r : Int} {v u : Value} (hx : Box5 w X k s r v u) (hb : Below w.heap.size w w') : Box5 w' X k s r v u := (hb.block X (Box5.lt hx)).trans hx
theorem Box5.alloc {X : Nat} {k s r : Int} {v u : Value} (hx : Box5 w X k s r v u) (o : Obj) : Box5 (w.alloc o) X k s r v u := hx.bel ((Below.refl _ _).alloc (Nat.le_refl _) _)
theorem _root_.Go.Proofs.Ytkaekiodjjhjkaa.K3.st5 (h : K3 w0 w w' B a len cap p) (X : Nat) (k s r : Int) (v u : Value) (hk : w.heap.size ≤ X) : K3 w0 w (st5 w' X k s r v u) B a len cap p :=
  ((((h.set _ _ hk).set _ _ hk).set _ _ hk).set _ _ hk).set _ _ hk
theorem RW.st5 {X : Nat} {k s r k' s' r' : Int} {v u v' u' : Value} {ks : List Int} {vs : List ByteArray} {x y : Option Addr} {c d : Nat} (hx : Box5 w X k s r v u) (h : RW w ks vs x y c d) : RW (Go.Proofs.Ytkaekiodjjhjkaa.G.st5 w X k' s' r' v' u') ks vs x y c d :=
  ⟨row_st5 hx (by decide) h.1, row_st5 hx (by decide) h.2⟩
theorem Box5.st5o {X Y : Nat} {k s r : Int} {v u : Value} (hx : Box5 w X k s r v u) (hne : X ≠ Y) (k' s' r' : Int) (v' u' : Value) : Box5 (Go.Proofs.Ytkaekiodjjhjkaa.G.st5 w Y k' s' r' v' u') X k s r v u :=
  Box5.kept hx (st5_grown w Y k' s' r' v' u') (by simpa using hne)
end

/-- A list of numbers in a block of its own. -/
def LI (w : World) (L : Nat) (l : List Int) : Prop := L < w.heap.size ∧ ∀ i, i < l.length → w.cell? ⟨L, i, none⟩ = some (.int .i64 (l.getD i 0))
theorem LI.new (w : World) (l : List Int) (t : TypeId) : LI (w.alloc (.cells (l.map fun v => Value.int .i64 v).toArray t (0, 0))) w.heap.size l := ⟨by simp, fun i hi => fresh_ints w l t i hi⟩
theorem LI.below {w w' : World} {L : Nat} {l : List Int} (h : LI w L l) (hb : Below w.heap.size w w') : LI w' L l := ⟨Nat.lt_of_lt_of_le h.1 hb.size, fun i hi => (hb.cell (p := ⟨L, i, none⟩) h.1).trans (h.2 i hi)⟩
theorem LI.alloc {w : World} {L : Nat} {l : List Int} (h : LI w L l) (o : Obj) : LI (w.alloc o) L l := h.below ((Below.refl _ _).alloc (Nat.le_refl _) _)
theorem one_l {w0 w : World} {B : Nat} {a : Option Addr} {len cap p : Nat} (h : RS w0 w B a len cap p) (hp : p ≤ 1000000) (L : Nat) (l : List Int) (hL : L ≠ B) (hli : LI w L l) (m0 : 0 < l.length) (m1 : l.length ≤ 1000) :
    Calls Try.prog 28 #[.pointer (some ⟨B, 0, none⟩), .slice (some ⟨L, 0, none⟩) l.length l.length] w fun e w' => ∃ v : Int, v ∈ l ∧ e = .returned (.int .i64 v) ∧ K3 w0 w w' B a len cap (p + 1) := by
  refine (one_s h hp L l.length (fun i => l.getD i 0) hL m0 m1 hli.2).mono ?_
  rintro e w' ⟨i, hi, rfl, h1, h2, h3⟩
  exact ⟨l.getD i 0, by simp [hi], rfl, h.k3 h1 (by omega) (fun k _ hB => h3 k hB)⟩

theorem newT_b (k s r : Int) : ∃ t : Nat, (newT k s r).s = t ∧ t ≤ 8 ∧ (newT k s r).ks.length ≤ 8 ∧ (newT k s r).vs.length ≤ 8 := by
  cases h : shapeB k s r
  · exact ⟨0, by simp [newT, h], by omega, by simp [newT, h], by simp [newT, h]⟩
  · have h2 := h
    simp only [shapeB, inB, Bool.and_eq_true, decide_eq_true_eq] at h2
    refine ⟨s.toNat, ?_, by omega, ?_, ?_⟩
    · unfold newT; rw [h, if_pos rfl]; split <;> (dsimp only; omega)
    · unfold newT; rw [h, if_pos rfl]; split
      · rw [keysN_length]; omega
      · simp
    · unfold newT; rw [h, if_pos rfl]; split
      · rw [List.length_replicate]; omega
      · simp
theorem putT_b (k : Int) (s : Nat) (r : Int) (ks : List Int) (vs : List ByteArray) (key : Int) (val : ByteArray) (hs : s ≤ 8) : ∃ t : Nat, (putT k s r ks vs key val).s = t ∧ t ≤ 8 ∧ (putT k s r ks vs key val).ks.length ≤ ks.length + 1 ∧ (putT k s r ks vs key val).vs.length ≤ vs.length + 1 := by
  have hz1 : (ks.zip vs).length ≤ ks.length := by simp; omega
  have hz2 : (ks.zip vs).length ≤ vs.length := by simp; omega
  have hp := putP_length (ks.zip vs) key val
  unfold putT
  split
  · split
    · exact ⟨s, rfl, hs, by dsimp only; rw [List.length_map]; omega, by dsimp only; rw [List.length_map]; omega⟩
    · exact ⟨s, rfl, hs, by dsimp only; omega, by dsimp only; omega⟩
  · exact ⟨0, rfl, by omega, by simp, by simp⟩

/-- A slice that does not lie below a block. -/
def Bs (n : Nat) (a : Option Addr) : Prop := ∀ g o, a = some ⟨g, o, none⟩ → n ≤ g
theorem Bs.mono {n m : Nat} {a : Option Addr} (h : Bs n a) (hm : m ≤ n) : Bs m a := fun g o e => Nat.le_trans hm (h g o e)
theorem bs_of {w : World} {n₀ e sz n c : Nat} {a : Option Addr} {xs : List Value} (h : w.ownsRow n₀ e sz (.slice a n c) n xs) : Bs n₀ a := fun g o e => own_base h g (by subst e; rfl)
theorem Tab.rwb {n₀ : Nat} {w : World} {k s r : Int} {ks : List Int} {vs : List ByteArray} {V : Value} (h : Tab n₀ w k s r ks vs V) : ∃ a b c d, V = .agg #[.int .i64 k, .int .i64 s, .int .i64 r, .slice a ks.length c, .slice b vs.length d] ∧ RW w ks vs a b c d ∧ Bs n₀ a ∧ Bs n₀ b := by
  obtain ⟨v, u, rfl, h1, h2⟩ := h
  obtain ⟨a, c, rfl⟩ := own_slice h1
  obtain ⟨b, d, rfl⟩ := own_slice h2
  exact ⟨a, b, c, d, rfl, ⟨own_mono h1 (Nat.zero_le _), own_mono h2 (Nat.zero_le _)⟩, bs_of h1, bs_of h2⟩
theorem snew_b (k s r : Int) (w : World) : Calls Try.prog 69 #[.int .i64 k, .int .i64 s, .int .i64 r] w fun e w' => ∃ a' b' c' d', e = .returned (.agg #[.int .i64 (newT k s r).k, .int .i64 (newT k s r).s, .int .i64 (newT k s r).r, .slice a' (newT k s r).ks.length c', .slice b' (newT k s r).vs.length d']) ∧ RW w' (newT k s r).ks (newT k s r).vs a' b' c' d' ∧ Bs w.heap.size a' ∧ Bs w.heap.size b' ∧ Below w.heap.size w w' := by
  refine (f14 k s r w).mono ?_
  rintro e w' ⟨V, rfl, ht, hb⟩
  obtain ⟨a', b', c', d', rfl, hr, h1, h2⟩ := Tab.rwb ht
  exact ⟨a', b', c', d', rfl, hr, h1, h2, hb⟩
theorem sput_b (k s r : Int) (ks : List Int) (vs : List ByteArray) (a b : Option Addr) (c d : Nat) (key : Int) (val : ByteArray) (hval : val.size ≤ 1048576) (w : World) (h : RW w ks vs a b c d) (hk : ks.length ≤ 1048576) (hv : vs.length ≤ 1048576) :
    Calls Try.prog 70 #[.agg #[.int .i64 k, .int .i64 s, .int .i64 r, .slice a ks.length c, .slice b vs.length d], .int .i64 key, .string val] w fun e w' => ∃ a' b' c' d', e = .returned (.tuple #[.agg #[.int .i64 (putT k s r ks vs key val).k, .int .i64 (putT k s r ks vs key val).s, .int .i64 (putT k s r ks vs key val).r, .slice a' (putT k s r ks vs key val).ks.length c', .slice b' (putT k s r ks vs key val).vs.length d'], .int .i64 (putT k s r ks vs key val).code]) ∧ RW w' (putT k s r ks vs key val).ks (putT k s r ks vs key val).vs a' b' c' d' ∧ Bs w.heap.size a' ∧ Bs w.heap.size b' ∧ Below w.heap.size w w' := by
  refine (f20o k s r ks vs a b 0 0 c d key val w h.1 h.2 hk hv hval).mono ?_
  rintro e w' ⟨V, rfl, ht, hb⟩
  obtain ⟨a', b', c', d', rfl, hr, h1, h2⟩ := Tab.rwb ht
  exact ⟨a', b', c', d', rfl, hr, h1, h2, hb⟩
theorem _root_.Go.Proofs.Ytkaekiodjjhjkaa.K3.belowN {w0 w w' w'' : World} {B : Nat} {a : Option Addr} {len cap p : Nat} (h : K3 w0 w w' B a len cap p) (hb : Below w.heap.size w' w'') : K3 w0 w w'' B a len cap p :=
  ⟨⟨(hb.block B h.lt).trans h.rs.box, h.rs.ge, h.rs.bel.trans (hb.mono h.le), h.rs.src, h.rs.le⟩, ⟨Nat.le_trans h.kp.1 hb.size, fun k hk hB => (hb.block k hk).trans (h.kp.2 k hk hB)⟩, h.lt, h.le⟩
end Go.Proofs.Ytkaekiodjjhjkaa.G
