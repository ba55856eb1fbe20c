/- Tables that a law holds: rows of their own; contracts over them. -/
import Derived.Test.YtkaekiodjjhjkaaJUO
import Derived.Test.YtkaekiodjjhjkaaJTk
import Derived.Test.YtkaekiodjjhjkaaJGrp17
import Derived.Test.YtkaekiodjjhjkaaJGrp14
import Derived.Test.YtkaekiodjjhjkaaJGrp15
import Derived.Test.YtkaekiodjjhjkaaJGrp1
import Derived.Test.YtkaekiodjjhjkaaJGrp12
import Derived.Test.YtkaekiodjjhjkaaJGrp3
set_option maxRecDepth 100000
set_option maxHeartbeats 4000000
set_option linter.unusedSimpArgs false
set_option linter.unusedVariables false
namespace Go.Proofs.Ytkaekiodjjhjkaa.G
open Go.RowKit
def RW (w : World) (ks : List Int) (vs : List ByteArray) (a b : Option Addr) (c d : Nat) : Prop :=
 w.ownsRow 0 3 1 (.slice a ks.length c) ks.length (ks.map (.int .i64)) ∧ w.ownsRow 0 9 1 (.slice b vs.length d) vs.length (vs.map .string)
section
variable {w w' : World} {ks : List Int} {vs : List ByteArray} {a b : Option Addr} {c d : Nat}
theorem RW.below (h : RW w ks vs a b c d) (hb : Below w.heap.size w w') : RW w' ks vs a b c d := ⟨own_below h.1 hb, own_below h.2 hb⟩
theorem RW.alloc (h : RW w ks vs a b c d) (X : Obj) : RW (w.alloc X) ks vs a b c d := h.below ((Below.refl _ _).alloc (Nat.le_refl _) _)
theorem RW.I (h : RW w ks vs a b c d) : ArgI w a ks := own_ints' h.1
theorem RW.S (h : RW w ks vs a b c d) : ArgS w b vs := own_strs' h.2
theorem RW.cap (h : RW w ks vs a b c d) : ks.length ≤ c := by
 obtain ⟨a', c', e, _, _, _, hc⟩ := own_ints h.1
 cases e
 exact hc
end
theorem Tab.rw {n₀ : Nat} {w : World} {k s r : Int} {ks : List Int} {vs : List ByteArray} {V : Value} (h : Tab n₀ w k s r ks vs V) : ∃ a b c d, V = .agg #[.int .i64 k, .int .i64 s, .int .i64 r, .slice a ks.length c, .slice b vs.length d] ∧ RW w ks vs a b c d := by
 obtain ⟨v, u, rfl, h1, h2⟩ := h
 obtain ⟨a, c, rfl⟩ := own_slice h1
 obtain ⟨b, d, rfl⟩ := own_slice h2
 exact ⟨a, b, c, d, rfl, own_mono h1 (Nat.zero_le _), own_mono h2 (Nat.zero_le _)⟩
structure TB (w : World) (B : Nat) (k s r : Int) (ks : List Int) (vs : List ByteArray) (a b : Option Addr) (c d : Nat) : Prop where
 box : B5 89 w B k s r (.slice a ks.length c) (.slice b vs.length d)
 rw : RW w ks vs a b c d
section
variable {w w' : World} {B : Nat} {k s r : Int} {ks : List Int} {vs : List ByteArray} {a b : Option Addr} {c d : Nat}
theorem TB.below (h : TB w B k s r ks vs a b c d) (hb : Below w.heap.size w w') : TB w' B k s r ks vs a b c d := ⟨(hb.block B (B5.lt h.box)).trans h.box, h.rw.below hb⟩
theorem TB.alloc (h : TB w B k s r ks vs a b c d) (X : Obj) : TB (w.alloc X) B k s r ks vs a b c d := h.below ((Below.refl _ _).alloc (Nat.le_refl _) _)
theorem TB.drew (h : TB w B k s r ks vs a b c d) : TB w.drew B k s r ks vs a b c d := h.below (Below.refl _ _).drew
theorem TB.lt (h : TB w B k s r ks vs a b c d) : B < w.heap.size := B5.lt h.box
theorem TB.cl (h : TB w B k s r ks vs a b c d) : w.cell? ⟨B, 0, none⟩ = some (.int .i64 k) ∧ w.cell? ⟨B, 1, none⟩ = some (.int .i64 s) ∧ w.cell? ⟨B, 2, none⟩ = some (.int .i64 r) ∧ w.cell? ⟨B, 3, none⟩ = some (.slice a ks.length c) ∧ w.cell? ⟨B, 4, none⟩ = some (.slice b vs.length d) := B5.cells h.box
theorem TB.new (h : RW w ks vs a b c d) (k s r : Int) : TB (w.alloc (.cells #[.int .i64 k, .int .i64 s, .int .i64 r, .slice a ks.length c, .slice b vs.length d] 89)) w.heap.size k s r ks vs a b c d := ⟨B5.new w _ k s r _ _, h.alloc _⟩
end
end Go.Proofs.Ytkaekiodjjhjkaa.G
namespace Go.Proofs.Ytkaekiodjjhjkaa.G
open Go.RowKit
section
variable {w0 w w' : World} {B : Nat} {a : Option Addr} {len cap p q : Nat}
theorem row_kept {e : TypeId} {base size n : Nat} {v : Value} {xs : List Value} (hne : (67 : TypeId) ≠ e) (h : RS w0 w B a len cap p) (k : K3 w0 w w' B a len cap q) (hr : w.ownsRow base e size v n xs) : w'.ownsRow base e size v n xs := by
 refine hr.kept (K3.grown h k) (.inr ?_)
 intro hb
 rcases hr.2 with ⟨rfl, _⟩ | ⟨g, cp, cur, rfl, _, hg, _⟩
 ·simp [Value.ownBlock] at hb
 ·simp only [Value.ownBlock, Option.some.injEq] at hb
  subst hb
  rw [h.box] at hg
  simp only [Option.some.injEq, Obj.cells.injEq] at hg
  exact hne hg.2.1
theorem RW.kept {ks : List Int} {vs : List ByteArray} {x y : Option Addr} {c d : Nat} (hr : RW w ks vs x y c d) (h : RS w0 w B a len cap p) (k : K3 w0 w w' B a len cap q) : RW w' ks vs x y c d :=
 ⟨row_kept (by decide) h k hr.1, row_kept (by decide) h k hr.2⟩
theorem Box5.k3 {X : Nat} {k s r : Int} {v u : Value} (hx : Box5 w X k s r v u) (hX : X ≠ B) (k3 : K3 w0 w w' B a len cap q) : Box5 w' X k s r v u := (k3.kp.2 X (Box5.lt hx) hX).trans hx
theorem TB.kept {X : Nat} {k s r : Int} {ks : List Int} {vs : List ByteArray} {x y : Option Addr} {c d : Nat} (ht : TB w X k s r ks vs x y c d) (hX : X ≠ B) (h : RS w0 w B a len cap p) (k3 : K3 w0 w w' B a len cap q) : TB w' X k s r ks vs x y c d :=
 ⟨Box5.k3 ht.box hX k3, ht.rw.kept h k3⟩
theorem Box5.bel {X : Nat} {k s r : Int} {v u : Value} (hx : Box5 w X k s r v u) (hb : Below w.heap.size w w') : Box5 w' X k s r v u := (hb.block X (Box5.lt hx)).trans hx
theorem Box5.alloc {X : Nat} {k s r : Int} {v u : Value} (hx : Box5 w X k s r v u) (o : Obj) : Box5 (w.alloc o) X k s r v u := hx.bel ((Below.refl _ _).alloc (Nat.le_refl _) _)
theorem _root_.Go.Proofs.Ytkaekiodjjhjkaa.K3.st5 (h : K3 w0 w w' B a len cap p) (X : Nat) (k s r : Int) (v u : Value) (hk : w.heap.size ≤ X) : K3 w0 w (st5 w' X k s r v u) B a len cap p :=
 ((((h.set _ _ hk).set _ _ hk).set _ _ hk).set _ _ hk).set _ _ hk
theorem RW.st5 {X : Nat} {k s r k' s' r' : Int} {v u v' u' : Value} {ks : List Int} {vs : List ByteArray} {x y : Option Addr} {c d : Nat} (hx : Box5 w X k s r v u) (h : RW w ks vs x y c d) : RW (Go.Proofs.Ytkaekiodjjhjkaa.G.st5 w X k' s' r' v' u') ks vs x y c d :=
 ⟨row_st5 hx (by decide) h.1, row_st5 hx (by decide) h.2⟩
theorem Box5.st5o {X Y : Nat} {k s r : Int} {v u : Value} (hx : Box5 w X k s r v u) (hne : X ≠ Y) (k' s' r' : Int) (v' u' : Value) : Box5 (Go.Proofs.Ytkaekiodjjhjkaa.G.st5 w Y k' s' r' v' u') X k s r v u :=
 Box5.kept hx (st5_grown w Y k' s' r' v' u') (by simpa using hne)
end
def LI (w : World) (L : Nat) (l : List Int) : Prop := L < w.heap.size ∧ ∀ i, i < l.length → w.cell? ⟨L, i, none⟩ = some (.int .i64 (l.getD i 0))
theorem LI.new (w : World) (l : List Int) (t : TypeId) : LI (w.alloc (.cells (l.map fun v => Value.int .i64 v).toArray t (0, 0))) w.heap.size l := ⟨by simp, fun i hi => fresh_ints w l t i hi⟩
theorem LI.below {w w' : World} {L : Nat} {l : List Int} (h : LI w L l) (hb : Below w.heap.size w w') : LI w' L l := ⟨Nat.lt_of_lt_of_le h.1 hb.size, fun i hi => (hb.cell (p := ⟨L, i, none⟩) h.1).trans (h.2 i hi)⟩
theorem LI.alloc {w : World} {L : Nat} {l : List Int} (h : LI w L l) (o : Obj) : LI (w.alloc o) L l := h.below ((Below.refl _ _).alloc (Nat.le_refl _) _)
theorem one_l {w0 w : World} {B : Nat} {a : Option Addr} {len cap p : Nat} (h : RS w0 w B a len cap p) (hp : p ≤ 1000000) (L : Nat) (l : List Int) (hL : L ≠ B) (hli : LI w L l) (m0 : 0 < l.length) (m1 : l.length ≤ 1000) :
 Calls Try.prog 28 #[.pointer (some ⟨B, 0, none⟩), .slice (some ⟨L, 0, none⟩) l.length l.length] w fun e w' => ∃ v : Int, v ∈ l ∧ e = .returned (.int .i64 v) ∧ K3 w0 w w' B a len cap (p + 1) := by
 refine (one_s h hp L l.length (fun i => l.getD i 0) hL m0 m1 hli.2).mono ?_
 rintro e w' ⟨i, hi, rfl, h1, h2, h3⟩
 exact ⟨l.getD i 0, by simp [hi], rfl, h.k3 h1 (by omega) (fun k _ hB => h3 k hB)⟩
theorem newT_b (k s r : Int) : ∃ t : Nat, (newT k s r).s = t ∧ t ≤ 8 ∧ (newT k s r).ks.length ≤ 8 ∧ (newT k s r).vs.length ≤ 8 := by
 cases h : shapeB k s r
 ·exact ⟨0, by simp [newT, h], by omega, by simp [newT, h], by simp [newT, h]⟩
 ·have h2 := h
  simp only [shapeB, inB, Bool.and_eq_true, decide_eq_true_eq] at h2
  refine ⟨s.toNat, ?_, by omega, ?_, ?_⟩
  ·unfold newT; rw [h, if_pos rfl]; split <;> (dsimp only; omega)
  ·unfold newT; rw [h, if_pos rfl]; split
   ·rw [keysN_length]; omega
   ·simp
  ·unfold newT; rw [h, if_pos rfl]; split
   ·rw [List.length_replicate]; omega
   ·simp
theorem putT_b (k : Int) (s : Nat) (r : Int) (ks : List Int) (vs : List ByteArray) (key : Int) (val : ByteArray) (hs : s ≤ 8) : ∃ t : Nat, (putT k s r ks vs key val).s = t ∧ t ≤ 8 ∧ (putT k s r ks vs key val).ks.length ≤ ks.length + 1 ∧ (putT k s r ks vs key val).vs.length ≤ vs.length + 1 := by
 have hz1 : (ks.zip vs).length ≤ ks.length := by simp; omega
 have hz2 : (ks.zip vs).length ≤ vs.length := by simp; omega
 have hp := putP_length (ks.zip vs) key val
 unfold putT
 split
 ·split
  ·exact ⟨s, rfl, hs, by dsimp only; rw [List.length_map]; omega, by dsimp only; rw [List.length_map]; omega⟩
  ·exact ⟨s, rfl, hs, by dsimp only; omega, by dsimp only; omega⟩
 ·exact ⟨0, rfl, by omega, by simp, by simp⟩
def Bs (n : Nat) (a : Option Addr) : Prop := ∀ g o, a = some ⟨g, o, none⟩ → n ≤ g
theorem Bs.mono {n m : Nat} {a : Option Addr} (h : Bs n a) (hm : m ≤ n) : Bs m a := fun g o e => Nat.le_trans hm (h g o e)
theorem bs_of {w : World} {n₀ e sz n c : Nat} {a : Option Addr} {xs : List Value} (h : w.ownsRow n₀ e sz (.slice a n c) n xs) : Bs n₀ a := fun g o e => own_base h g (by subst e; rfl)
theorem Tab.rwb {n₀ : Nat} {w : World} {k s r : Int} {ks : List Int} {vs : List ByteArray} {V : Value} (h : Tab n₀ w k s r ks vs V) : ∃ a b c d, V = .agg #[.int .i64 k, .int .i64 s, .int .i64 r, .slice a ks.length c, .slice b vs.length d] ∧ RW w ks vs a b c d ∧ Bs n₀ a ∧ Bs n₀ b := by
 obtain ⟨v, u, rfl, h1, h2⟩ := h
 obtain ⟨a, c, rfl⟩ := own_slice h1
 obtain ⟨b, d, rfl⟩ := own_slice h2
 exact ⟨a, b, c, d, rfl, ⟨own_mono h1 (Nat.zero_le _), own_mono h2 (Nat.zero_le _)⟩, bs_of h1, bs_of h2⟩
theorem snew_b (k s r : Int) (w : World) : Calls Try.prog 69 #[.int .i64 k, .int .i64 s, .int .i64 r] w fun e w' => ∃ a' b' c' d', e = .returned (.agg #[.int .i64 (newT k s r).k, .int .i64 (newT k s r).s, .int .i64 (newT k s r).r, .slice a' (newT k s r).ks.length c', .slice b' (newT k s r).vs.length d']) ∧ RW w' (newT k s r).ks (newT k s r).vs a' b' c' d' ∧ Bs w.heap.size a' ∧ Bs w.heap.size b' ∧ Below w.heap.size w w' := by
 refine (f14 k s r w).mono ?_
 rintro e w' ⟨V, rfl, ht, hb⟩
 obtain ⟨a', b', c', d', rfl, hr, h1, h2⟩ := Tab.rwb ht
 exact ⟨a', b', c', d', rfl, hr, h1, h2, hb⟩
theorem sput_b (k s r : Int) (ks : List Int) (vs : List ByteArray) (a b : Option Addr) (c d : Nat) (key : Int) (val : ByteArray) (hval : val.size ≤ 1048576) (w : World) (h : RW w ks vs a b c d) (hk : ks.length ≤ 1048576) (hv : vs.length ≤ 1048576) :
 Calls Try.prog 70 #[.agg #[.int .i64 k, .int .i64 s, .int .i64 r, .slice a ks.length c, .slice b vs.length d], .int .i64 key, .string val] w fun e w' => ∃ a' b' c' d', e = .returned (.tuple #[.agg #[.int .i64 (putT k s r ks vs key val).k, .int .i64 (putT k s r ks vs key val).s, .int .i64 (putT k s r ks vs key val).r, .slice a' (putT k s r ks vs key val).ks.length c', .slice b' (putT k s r ks vs key val).vs.length d'], .int .i64 (putT k s r ks vs key val).code]) ∧ RW w' (putT k s r ks vs key val).ks (putT k s r ks vs key val).vs a' b' c' d' ∧ Bs w.heap.size a' ∧ Bs w.heap.size b' ∧ Below w.heap.size w w' := by
 refine (f20o k s r ks vs a b 0 0 c d key val w h.1 h.2 hk hv hval).mono ?_
 rintro e w' ⟨V, rfl, ht, hb⟩
 obtain ⟨a', b', c', d', rfl, hr, h1, h2⟩ := Tab.rwb ht
 exact ⟨a', b', c', d', rfl, hr, h1, h2, hb⟩
end Go.Proofs.Ytkaekiodjjhjkaa.G
namespace Go.Proofs.Ytkaekiodjjhjkaa.G
open Go.RowKit
theorem pred_int {j : Nat} (h : 0 < j) : Value.int .i64 ((j : Int) - 1) = .int .i64 ((j - 1 : Nat) : Int) := by rw [Int.natCast_sub h]; rfl
theorem table_k {w0 w : World} {B : Nat} {a : Option Addr} {len cap p : Nat} (h : RS w0 w B a len cap p) (hp : p ≤ 800000) :
 Calls Try.prog 55 #[.pointer (some ⟨B, 0, none⟩)] w fun e w' => ∃ (k : Int) (s : Nat) (r : Int) (ks : List Int) (vs : List ByteArray) (a1 b1 : Option Addr) (c1 d1 q : Nat), e = .returned (.agg #[.int .i64 k, .int .i64 s, .int .i64 r, .slice a1 ks.length c1, .slice b1 vs.length d1]) ∧ RW w' ks vs a1 b1 c1 d1 ∧ Bs w.heap.size a1 ∧ Bs w.heap.size b1 ∧ s ≤ 8 ∧ ks.length ≤ 20 ∧ vs.length ≤ 20 ∧ q ≤ p + 40 ∧ K3 w0 w w' B a len cap q := by
 have H := hid h
 have lB := h.lt
 clear h
 go_enter Try.func55, Try.ntmps55
 go_wp2_with fail
 have hQ : Hid (Box5 (w.alloc (.cells #[.int .i64 0, .int .i64 0, .int .i64 0, .slice none 0 0, .slice none 0 0] 89)) w.heap.size 0 0 0 (.slice none 0 0) (.slice none 0 0)) := World.alloc_heap_new w _
 have hD := hid ((K3.start H.out).alloc (.cells #[.int .i64 0, .int .i64 0, .int .i64 0, .slice none 0 0, .slice none 0 0] 89))
 have sQ : w.heap.size < (w.alloc (.cells #[.int .i64 0, .int .i64 0, .int .i64 0, .slice none 0 0, .slice none 0 0] 89)).heap.size := by simp
 clear H
 generalize w.alloc (.cells #[.int .i64 0, .int .i64 0, .int .i64 0, .slice none 0 0, .slice none 0 0] 89) = w1 at *
 refine (pick_k hD.out.rs (by omega) 2 (by omega) (by omega)).mono ?_
 rintro e w2 ⟨m, rfl, hm, k2⟩
 replace hQ := hid (hQ.out.k3 (by omega) k2)
 replace hD := hid (hD.out.draw k2)
 clear k2 sQ
 go_wp2_with fail
 refine (one_k hD.out.rs (by omega) [1, 2, 4, 8] 3 (by decide) (by decide)).mono ?_
 rintro e w3 ⟨s0, hs0, rfl, k3⟩
 replace hQ := hid (hQ.out.k3 (by omega) k3)
 replace hD := hid (hD.out.draw k3)
 clear k3 hs0
 go_wp2_with fail
 refine (one_k hD.out.rs (by omega) [1, 2, 4, 8] 3 (by decide) (by decide)).mono ?_
 rintro e w4 ⟨r0, hr0, rfl, k4⟩
 replace hQ := hid (hQ.out.k3 (by omega) k4)
 replace hD := hid (hD.out.draw k4)
 clear k4 hr0
 go_wp2_with fail
 refine (snew_b _ s0 r0 _).mono ?_
 rintro e w5 ⟨a1, b1, c1, d1, rfl, hr, ba0, bb0, b5⟩
 have ba1 := hid (ba0.mono hD.out.kp.1)
 have bb1 := hid (bb0.mono hD.out.kp.1)
 clear ba0 bb0
 obtain ⟨t, ht, ht8, hkl, hvl⟩ := newT_b (1 + m) s0 r0
 generalize newT (1 + m) s0 r0 = tt at *
 obtain ⟨kz, S, R, KS, VS, C⟩ := tt
 dsimp only at ht hkl hvl hr
 subst ht
 replace hQ := hid (hQ.out.bel b5)
 replace hD := hid (hD.out.below b5)
 have hR := hid hr
 clear b5 hr
 go_wp2_with fail
 have hM := hid (TB.new hR.out kz t R)
 have lQ := hQ.out.lt
 replace hQ := hid (hQ.out.alloc (.cells #[.int .i64 kz, .int .i64 t, .int .i64 R, .slice a1 KS.length c1, .slice b1 VS.length d1] 89))
 replace hD := hid (hD.out.alloc (.cells #[.int .i64 kz, .int .i64 t, .int .i64 R, .slice a1 KS.length c1, .slice b1 VS.length d1] 89))
 clear hR
 generalize w5.alloc (.cells #[.int .i64 kz, .int .i64 t, .int .i64 R, .slice a1 KS.length c1, .slice b1 VS.length d1] 89) = w6 at *
 generalize w5.heap.size = M at *
 refine (pick_k hD.out.rs (by omega) 6 (by omega) (by omega)).mono ?_
 rintro e w7 ⟨n, rfl, hn, k7⟩
 replace hM := hid (hM.out.kept (by omega) hD.out.rs k7)
 replace hQ := hid (hQ.out.k3 (by omega) k7)
 replace hD := hid (hD.out.draw k7)
 clear k7
 go_wp2_with fail
 go_loopw [4] (fun i wr => ∃ (j : Nat) (k : Int) (s : Nat) (r : Int) (ks : List Int) (vs : List ByteArray) (a1 b1 : Option Addr) (c1 d1 q : Nat), i = .int .i64 j ∧ j ≤ 5 ∧ TB wr M k s r ks vs a1 b1 c1 d1 ∧ Box5 wr w.heap.size 0 0 0 (.slice none 0 0) (.slice none 0 0) ∧ K3 w0 w wr B a len cap q ∧ Bs w.heap.size a1 ∧ Bs w.heap.size b1 ∧ s ≤ 8 ∧ ks.length + j ≤ 13 ∧ vs.length + j ≤ 13 ∧ q + 4 * j ≤ p + 40) (fun i _ => (intOf i).toNat)
 case atStart => exact ⟨n, kz, t, R, KS, VS, a1, b1, c1, d1, _, rfl, by omega, hM.out, hQ.out, hD.out, ba1.out, bb1.out, ht8, by omega, by omega, by omega⟩
 case round =>
  clear hM hQ hD hkl hvl ba1 bb1
  clear ht8
  obtain ⟨j, k, s, r, ks, vs, a1, b1, c1, d1, q, rfl, hj, hM0, hQ0, hK0, hba, hbb, hs, hkl, hvl, hq⟩ := hrel
  have ba1 := hid hba
  have bb1 := hid hbb
  clear hba hbb
  have HM := hid hM0
  have HQ := hid hQ0
  have HK := hid hK0
  clear hM0 hQ0 hK0
  by_cases hlt : 0 < j
  ·have hlt' : (0 : Int) < (j : Int) := by omega
   have hjn : (j : Int) ≤ 5 := by omega
   go_wp2_with fail
   refine wp_region_held_drew (S := (fun w' => w'.cell? ⟨M, 0, none⟩ = some (.int .i64 k) ∧ w'.cell? ⟨M, 1, none⟩ = some (.int .i64 s) ∧ w'.cell? ⟨M, 2, none⟩ = some (.int .i64 r) ∧ w'.cell? ⟨M, 3, none⟩ = some (.slice a1 ks.length c1) ∧ w'.cell? ⟨M, 4, none⟩ = some (.slice b1 vs.length d1))) (by kernel_rfl) (by exact HM.out.cl) (fun hHeld => ?_)
   have hM := hid HM.out.drew
   have hQ := hid (HQ.out.bel (Below.refl _ _).drew)
   have hD := hid HK.out.drew
   clear HM HQ HK
   generalize wr.drew = W1 at *
   refine tkH 0 15 hHeld ?_
   try simp only [Act.put, sA, sB, sC]
   refine tkH 1 14 hHeld ?_
   try simp only [Act.put, sA, sB, sC]
   refine tkH 4 13 hHeld ?_
   try simp only [Act.put, sA, sB, sC]
   refine tkH 6 12 hHeld ?_
   try simp only [Act.put, sA, sB, sC]
   refine tkH 7 11 hHeld ?_
   try simp only [Act.put, sA, sB, sC]
   refine wpAnyH_ready (fuel := 10) (rs := [2, 13]) (by kernel_rfl) (by simp) ?_
   refine AllReadyH.cons (o := ?oi6) ?hi6 (fun K hK => ?st6) ?mo6
   case hi6 => rw [List.getElem?_toArray]; rfl
   case st6 =>
    go_simp
    have ba : Below W1.heap.size W1 (W1.alloc (.cells #[.int .i64 0, .int .i64 1, .int .i64 2, .int .i64 3, .int .i64 7, .int .i64 200, .int .i64 4294967295] 3)) := (Below.refl _ _).alloc (Nat.le_refl _) _
    have lLM := hM.out.lt
    have lLQ := hQ.out.lt
    have lLB := hD.out.rs.lt
    have hL := hid (LI.new W1 [0, 1, 2, 3, 7, 200, 4294967295] 3)
    replace hL : Hid (LI (W1.alloc (.cells #[.int .i64 0, .int .i64 1, .int .i64 2, .int .i64 3, .int .i64 7, .int .i64 200, .int .i64 4294967295] 3)) W1.heap.size [0, 1, 2, 3, 7, 200, 4294967295]) := hL
    replace hM := hid (hM.out.below ba)
    replace hQ := hid (hQ.out.bel ba)
    replace hD := hid (hD.out.below ba)
    clear ba
    generalize W1.alloc (.cells #[.int .i64 0, .int .i64 1, .int .i64 2, .int .i64 3, .int .i64 7, .int .i64 200, .int .i64 4294967295] 3) = wr2 at *
    generalize W1.heap.size = L at *
    refine hK.out _ _ ?hS6 (fun hHeld => ?re6)
    case hS6 => exact hM.out.cl
    clear hK K
    try simp only [Act.put, sA, sB, sC]
    refine wpAnyH_ready (fuel := 9) (rs := [3, 13]) (by kernel_rfl) (by simp) ?_
    refine AllReadyH.cons (o := ?oi7) ?hi7 (fun K hK => ?st7) ?mo7
    case hi7 => rw [List.getElem?_toArray]; rfl
    case st7 =>
     go_simp
     refine (one_l hD.out.rs (by omega) L [0, 1, 2, 3, 7, 200, 4294967295] (by omega) hL.out (by decide) (by decide)).mono ?_
     rintro ee wr3 ⟨key, hkey, rfl, k3⟩
     clear hkey hL
     replace hM := hid (hM.out.kept (by omega) hD.out.rs k3)
     replace hQ := hid (hQ.out.k3 (by omega) k3)
     replace hD := hid (hD.out.draw k3)
     clear k3
     go_wp2_with fail
     refine hK.out _ _ ?hS7 (fun hHeld => ?re7)
     case hS7 => exact hM.out.cl
     clear hK K
     try simp only [Act.put, sA, sB, sC]
     refine wpAnyH_ready (fuel := 8) (rs := [5, 13]) (by kernel_rfl) (by simp) ?_
     refine AllReadyH.cons (o := ?oi8) ?hi8 (fun K hK => ?st8) ?mo8
     case hi8 => rw [List.getElem?_toArray]; rfl
     case st8 =>
      go_simp
      refine (number_k hD.out.rs (by omega)).mono ?_
      rintro ee wr5 ⟨v, q2, rfl, hv, hq2, k5⟩
      replace hM := hid (hM.out.kept (by omega) hD.out.rs k5)
      replace hQ := hid (hQ.out.k3 (by omega) k5)
      replace hD := hid (hD.out.draw k5)
      clear k5
      go_wp2_with fail
      refine hK.out _ _ ?hS8 (fun hHeld => ?re8)
      case hS8 => exact hM.out.cl
      clear hK K
      try simp only [Act.put, sA, sB, sC]
      refine wpAnyH_ready (fuel := 7) (rs := [8, 13]) (by kernel_rfl) (by simp) ?_
      refine AllReadyH.cons (o := ?oi9) ?hi9 (fun K hK => ?st9) ?mo9
      case hi9 => rw [List.getElem?_toArray]; rfl
      case st9 =>
       go_simp
       refine (l4Bytes_c v s _ hs).mono ?_
       rintro ee wr8 ⟨val, rfl, hval, b8⟩
       replace hM := hid (hM.out.below b8)
       replace hQ := hid (hQ.out.bel b8)
       replace hD := hid (hD.out.below b8)
       clear b8
       go_wp2_with fail
       refine hK.out _ _ ?hS9 (fun hHeld => ?re9)
       case hS9 => exact hM.out.cl
       clear hK K
       try simp only [Act.put, sA, sB, sC]
       refine wpAnyH_ready (fuel := 6) (rs := [9, 13]) (by kernel_rfl) (by simp) ?_
       refine AllReadyH.cons (o := ?oi10) ?hi10 (fun K hK => ?st10) ?mo10
       case hi10 => rw [List.getElem?_toArray]; rfl
       case st10 =>
        go_simp
        refine (sput_b k s r ks vs a1 b1 c1 d1 key val (by omega) _ hM.out.rw (by omega) (by omega)).mono ?_
        rintro ee wr9 ⟨a2, b2, c2, d2, rfl, hr, ba0, bb0, b9⟩
        have ba2 := hid (ba0.mono hD.out.kp.1)
        have bb2 := hid (bb0.mono hD.out.kp.1)
        clear ba0 bb0
        have hR := hid hr
        clear hr
        obtain ⟨t, ht, ht8, hkl, hvl⟩ := putT_b k s r ks vs key val hs
        generalize putT k s r ks vs key val = tt at *
        obtain ⟨kz, S, R, KS, VS, C⟩ := tt
        dsimp only at ht hkl hvl hR
        subst ht
        replace hM := hid (hM.out.below b9)
        replace hQ := hid (hQ.out.bel b9)
        replace hD := hid (hD.out.below b9)
        clear b9
        go_wp2_with fail
        refine hK.out _ _ ?hS10 (fun hHeld => ?re10)
        case hS10 => exact hM.out.cl
        clear hK K
        try simp only [Act.put, sA, sB, sC]
        refine tkH 10 5 hHeld ?_
        try simp only [Act.put, sA, sB, sC]
        refine tkH 11 4 hHeld ?_
        try simp only [Act.put, sA, sB, sC]
        refine tkH 12 3 hHeld ?_
        try simp only [Act.put, sA, sB, sC]
        refine wpAnyH_ready (fuel := 2) (rs := [13]) (by kernel_rfl) (by simp) ?_
        refine AllReadyH.cons (by rw [List.getElem?_toArray]; rfl) (fun K hK => ?_) AllReadyH.nil
        go_simp
        have ba : Below wr9.heap.size wr9 (wr9.alloc (.cells #[.int .i64 0, .int .i64 0, .int .i64 0, .slice none 0 0, .slice none 0 0] 89)) := (Below.refl _ _).alloc (Nat.le_refl _) _
        have lXM := hM.out.lt
        have lXQ := hQ.out.lt
        have lXB := hD.out.rs.lt
        have hX : Hid (Box5 (wr9.alloc (.cells #[.int .i64 0, .int .i64 0, .int .i64 0, .slice none 0 0, .slice none 0 0] 89)) wr9.heap.size 0 0 0 (.slice none 0 0) (.slice none 0 0)) := World.alloc_heap_new wr9 _
        replace hM := hid (hM.out.below ba)
        replace hQ := hid (hQ.out.bel ba)
        replace hR := hid (hR.out.below ba)
        replace hD := hid (hD.out.below ba)
        clear ba
        generalize wr9.alloc (.cells #[.int .i64 0, .int .i64 0, .int .i64 0, .slice none 0 0, .slice none 0 0] 89) = wr13 at *
        generalize wr9.heap.size = X at *
        refine hK.out _ _ ?hS14 (fun hHeld => ?re14)
        case hS14 => exact hM.out.cl
        clear hK K
        try simp only [Act.put, sA, sB, sC]
        refine wpAnyH_ready (fuel := 1) (rs := [14]) (by kernel_rfl) (by simp) ?_
        refine AllReadyH.cons (by rw [List.getElem?_toArray]; rfl) (fun K hK => ?_) AllReadyH.nil
        obtain ⟨g0, g1, g2, g3, g4⟩ := Box5.cells hX.out
        have gf := Box5.frozen hX.out
        have gl := Box5.lt hX.out
        go_simp
        clear g0 g1 g2 g3 g4 gf gl
        refine hK.out _ _ ?hS15 (fun hHeld => ?re15)
        case hS15 => exact Box5.cells (Box5.st5o (Y := X) hM.out.box (by omega) kz t R (.slice a2 KS.length c2) (.slice b2 VS.length d2))
        clear hK K
        try simp only [Act.put, sA, sB, sC]
        refine tkH 15 0 hHeld ?_
        try simp only [Act.put, sA, sB, sC]
        refine wpAnyH_done (by kernel_rfl) ?_ _
        clear hHeld
        have hX1 := hid (Box5.st5 hX.out (k' := kz) (s' := t) (r' := R) (v' := .slice a2 KS.length c2) (u' := .slice b2 VS.length d2))
        have hR1 := hid (RW.st5 hX.out hR.out (k' := kz) (s' := t) (r' := R) (v' := .slice a2 KS.length c2) (u' := .slice b2 VS.length d2))
        have hM1 := hid (Box5.st5o (w := wr13) (Y := X) hM.out.box (by omega) kz t R (.slice a2 KS.length c2) (.slice b2 VS.length d2))
        have hQ1 := hid (Box5.st5o hQ.out (Y := X) (by omega) kz t R (.slice a2 KS.length c2) (.slice b2 VS.length d2))
        have hD1 := hid (hD.out.st5 X kz t R (.slice a2 KS.length c2) (.slice b2 VS.length d2) (by omega))
        clear hX hR hM hQ hD
        have hX := hX1.out
        have hR := hR1.out
        have hM := hM1.out
        have hQ := hQ1.out
        have hD := hD1.out
        clear hX1 hR1 hM1 hQ1 hD1
        unfold st5 at hX hR hM hQ hD
        generalize (((((wr13.setCell ⟨X, 0, none⟩ (.int .i64 kz)).setCell ⟨X, 1, none⟩ (.int .i64 t)).setCell ⟨X, 2, none⟩ (.int .i64 R)).setCell ⟨X, 3, none⟩ (.slice a2 KS.length c2)).setCell ⟨X, 4, none⟩ (.slice b2 VS.length d2)) = wz at *
        have HX := hid hX
        have HR := hid hR
        have HM := hid hM
        have HQ := hid hQ
        have HK := hid hD
        clear hX hR hM hQ hD
        obtain ⟨x0, x1, x2, x3, x4⟩ := Box5.cells HX.out
        obtain ⟨y0, y1, y2, y3, y4⟩ := Box5.cells HM.out
        have fM := Box5.frozen HM.out
        have lM := Box5.lt HM.out
        have lX := Box5.lt HX.out
        go_wp2_with fail
        have M2 := Box5.st5 HM.out (k' := kz) (s' := t) (r' := R) (v' := .slice a2 KS.length c2) (u' := .slice b2 VS.length d2)
        have R2 := RW.st5 HM.out HR.out (k' := kz) (s' := t) (r' := R) (v' := .slice a2 KS.length c2) (u' := .slice b2 VS.length d2)
        have Q2 := Box5.st5o HQ.out (Y := M) (by omega) kz t R (.slice a2 KS.length c2) (.slice b2 VS.length d2)
        have K2 := HK.out.st5 M kz t R (.slice a2 KS.length c2) (.slice b2 VS.length d2) (by omega)
        unfold st5 at M2 R2 Q2 K2
        refine ⟨?_, by simp [intOf]; omega⟩
        exact ⟨j - 1, kz, t, R, KS, VS, a2, b2, c2, d2, q2, by rw [pred_int (by omega)], by omega, ⟨M2, R2⟩, Q2, K2, ba2.out, bb2.out, ht8, by omega, by omega, by omega⟩
       refine AllReadyH.cons (o := ?oi17) ?hi17 (fun K hK => ?st17) ?mo17
       case hi17 => rw [List.getElem?_toArray]; rfl
       case st17 =>
        go_simp
        have ba : Below wr8.heap.size wr8 (wr8.alloc (.cells #[.int .i64 0, .int .i64 0, .int .i64 0, .slice none 0 0, .slice none 0 0] 89)) := (Below.refl _ _).alloc (Nat.le_refl _) _
        have lXM := hM.out.lt
        have lXQ := hQ.out.lt
        have lXB := hD.out.rs.lt
        have hX : Hid (Box5 (wr8.alloc (.cells #[.int .i64 0, .int .i64 0, .int .i64 0, .slice none 0 0, .slice none 0 0] 89)) wr8.heap.size 0 0 0 (.slice none 0 0) (.slice none 0 0)) := World.alloc_heap_new wr8 _
        replace hM := hid (hM.out.below ba)
        replace hQ := hid (hQ.out.bel ba)
        replace hD := hid (hD.out.below ba)
        clear ba
        generalize wr8.alloc (.cells #[.int .i64 0, .int .i64 0, .int .i64 0, .slice none 0 0, .slice none 0 0] 89) = wr13 at *
        generalize wr8.heap.size = X at *
        refine hK.out _ _ ?hS17 (fun hHeld => ?re17)
        case hS17 => exact hM.out.cl
        clear hK K
        try simp only [Act.put, sA, sB, sC]
        refine wpAnyH_ready (fuel := 5) (rs := [9]) (by kernel_rfl) (by simp) ?_
        refine AllReadyH.cons (by rw [List.getElem?_toArray]; rfl) (fun K hK => ?_) AllReadyH.nil
        go_simp
        refine (sput_b k s r ks vs a1 b1 c1 d1 key val (by omega) _ hM.out.rw (by omega) (by omega)).mono ?_
        rintro ee wr9 ⟨a2, b2, c2, d2, rfl, hr, ba0, bb0, b9⟩
        have ba2 := hid (ba0.mono hD.out.kp.1)
        have bb2 := hid (bb0.mono hD.out.kp.1)
        clear ba0 bb0
        have hR := hid hr
        clear hr
        obtain ⟨t, ht, ht8, hkl, hvl⟩ := putT_b k s r ks vs key val hs
        generalize putT k s r ks vs key val = tt at *
        obtain ⟨kz, S, R, KS, VS, C⟩ := tt
        dsimp only at ht hkl hvl hR
        subst ht
        replace hM := hid (hM.out.below b9)
        replace hQ := hid (hQ.out.bel b9)
        replace hX := hid (hX.out.bel b9)
        replace hD := hid (hD.out.below b9)
        clear b9
        go_wp2_with fail
        refine hK.out _ _ ?hS18 (fun hHeld => ?re18)
        case hS18 => exact hM.out.cl
        clear hK K
        try simp only [Act.put, sA, sB, sC]
        refine tkH 10 4 hHeld ?_
        try simp only [Act.put, sA, sB, sC]
        refine tkH 11 3 hHeld ?_
        try simp only [Act.put, sA, sB, sC]
        refine tkH 12 2 hHeld ?_
        try simp only [Act.put, sA, sB, sC]
        refine wpAnyH_ready (fuel := 1) (rs := [14]) (by kernel_rfl) (by simp) ?_
        refine AllReadyH.cons (by rw [List.getElem?_toArray]; rfl) (fun K hK => ?_) AllReadyH.nil
        obtain ⟨g0, g1, g2, g3, g4⟩ := Box5.cells hX.out
        have gf := Box5.frozen hX.out
        have gl := Box5.lt hX.out
        go_simp
        clear g0 g1 g2 g3 g4 gf gl
        refine hK.out _ _ ?hS22 (fun hHeld => ?re22)
        case hS22 => exact Box5.cells (Box5.st5o (Y := X) hM.out.box (by omega) kz t R (.slice a2 KS.length c2) (.slice b2 VS.length d2))
        clear hK K
        try simp only [Act.put, sA, sB, sC]
        refine tkH 15 0 hHeld ?_
        try simp only [Act.put, sA, sB, sC]
        refine wpAnyH_done (by kernel_rfl) ?_ _
        clear hHeld
        have hX1 := hid (Box5.st5 hX.out (k' := kz) (s' := t) (r' := R) (v' := .slice a2 KS.length c2) (u' := .slice b2 VS.length d2))
        have hR1 := hid (RW.st5 hX.out hR.out (k' := kz) (s' := t) (r' := R) (v' := .slice a2 KS.length c2) (u' := .slice b2 VS.length d2))
        have hM1 := hid (Box5.st5o (w := wr9) (Y := X) hM.out.box (by omega) kz t R (.slice a2 KS.length c2) (.slice b2 VS.length d2))
        have hQ1 := hid (Box5.st5o hQ.out (Y := X) (by omega) kz t R (.slice a2 KS.length c2) (.slice b2 VS.length d2))
        have hD1 := hid (hD.out.st5 X kz t R (.slice a2 KS.length c2) (.slice b2 VS.length d2) (by omega))
        clear hX hR hM hQ hD
        have hX := hX1.out
        have hR := hR1.out
        have hM := hM1.out
        have hQ := hQ1.out
        have hD := hD1.out
        clear hX1 hR1 hM1 hQ1 hD1
        unfold st5 at hX hR hM hQ hD
        generalize (((((wr9.setCell ⟨X, 0, none⟩ (.int .i64 kz)).setCell ⟨X, 1, none⟩ (.int .i64 t)).setCell ⟨X, 2, none⟩ (.int .i64 R)).setCell ⟨X, 3, none⟩ (.slice a2 KS.length c2)).setCell ⟨X, 4, none⟩ (.slice b2 VS.length d2)) = wz at *
        have HX := hid hX
        have HR := hid hR
        have HM := hid hM
        have HQ := hid hQ
        have HK := hid hD
        clear hX hR hM hQ hD
        obtain ⟨x0, x1, x2, x3, x4⟩ := Box5.cells HX.out
        obtain ⟨y0, y1, y2, y3, y4⟩ := Box5.cells HM.out
        have fM := Box5.frozen HM.out
        have lM := Box5.lt HM.out
        have lX := Box5.lt HX.out
        go_wp2_with fail
        have M2 := Box5.st5 HM.out (k' := kz) (s' := t) (r' := R) (v' := .slice a2 KS.length c2) (u' := .slice b2 VS.length d2)
        have R2 := RW.st5 HM.out HR.out (k' := kz) (s' := t) (r' := R) (v' := .slice a2 KS.length c2) (u' := .slice b2 VS.length d2)
        have Q2 := Box5.st5o HQ.out (Y := M) (by omega) kz t R (.slice a2 KS.length c2) (.slice b2 VS.length d2)
        have K2 := HK.out.st5 M kz t R (.slice a2 KS.length c2) (.slice b2 VS.length d2) (by omega)
        unfold st5 at M2 R2 Q2 K2
        refine ⟨?_, by simp [intOf]; omega⟩
        exact ⟨j - 1, kz, t, R, KS, VS, a2, b2, c2, d2, q2, by rw [pred_int (by omega)], by omega, ⟨M2, R2⟩, Q2, K2, ba2.out, bb2.out, ht8, by omega, by omega, by omega⟩
       exact AllReadyH.nil
      refine AllReadyH.cons (o := ?oi24) ?hi24 (fun K hK => ?st24) ?mo24
      case hi24 => rw [List.getElem?_toArray]; rfl
      case st24 =>
       go_simp
       have ba : Below wr5.heap.size wr5 (wr5.alloc (.cells #[.int .i64 0, .int .i64 0, .int .i64 0, .slice none 0 0, .slice none 0 0] 89)) := (Below.refl _ _).alloc (Nat.le_refl _) _
       have lXM := hM.out.lt
       have lXQ := hQ.out.lt
       have lXB := hD.out.rs.lt
       have hX : Hid (Box5 (wr5.alloc (.cells #[.int .i64 0, .int .i64 0, .int .i64 0, .slice none 0 0, .slice none 0 0] 89)) wr5.heap.size 0 0 0 (.slice none 0 0) (.slice none 0 0)) := World.alloc_heap_new wr5 _
       replace hM := hid (hM.out.below ba)
       replace hQ := hid (hQ.out.bel ba)
       replace hD := hid (hD.out.below ba)
       clear ba
       generalize wr5.alloc (.cells #[.int .i64 0, .int .i64 0, .int .i64 0, .slice none 0 0, .slice none 0 0] 89) = wr13 at *
       generalize wr5.heap.size = X at *
       refine hK.out _ _ ?hS24 (fun hHeld => ?re24)
       case hS24 => exact hM.out.cl
       clear hK K
       try simp only [Act.put, sA, sB, sC]
       refine wpAnyH_ready (fuel := 6) (rs := [8]) (by kernel_rfl) (by simp) ?_
       refine AllReadyH.cons (by rw [List.getElem?_toArray]; rfl) (fun K hK => ?_) AllReadyH.nil
       go_simp
       refine (l4Bytes_c v s _ hs).mono ?_
       rintro ee wr8 ⟨val, rfl, hval, b8⟩
       replace hM := hid (hM.out.below b8)
       replace hQ := hid (hQ.out.bel b8)
       replace hX := hid (hX.out.bel b8)
       replace hD := hid (hD.out.below b8)
       clear b8
       go_wp2_with fail
       refine hK.out _ _ ?hS25 (fun hHeld => ?re25)
       case hS25 => exact hM.out.cl
       clear hK K
       try simp only [Act.put, sA, sB, sC]
       refine wpAnyH_ready (fuel := 5) (rs := [9]) (by kernel_rfl) (by simp) ?_
       refine AllReadyH.cons (by rw [List.getElem?_toArray]; rfl) (fun K hK => ?_) AllReadyH.nil
       go_simp
       refine (sput_b k s r ks vs a1 b1 c1 d1 key val (by omega) _ hM.out.rw (by omega) (by omega)).mono ?_
       rintro ee wr9 ⟨a2, b2, c2, d2, rfl, hr, ba0, bb0, b9⟩
       have ba2 := hid (ba0.mono hD.out.kp.1)
       have bb2 := hid (bb0.mono hD.out.kp.1)
       clear ba0 bb0
       have hR := hid hr
       clear hr
       obtain ⟨t, ht, ht8, hkl, hvl⟩ := putT_b k s r ks vs key val hs
       generalize putT k s r ks vs key val = tt at *
       obtain ⟨kz, S, R, KS, VS, C⟩ := tt
       dsimp only at ht hkl hvl hR
       subst ht
       replace hM := hid (hM.out.below b9)
       replace hQ := hid (hQ.out.bel b9)
       replace hX := hid (hX.out.bel b9)
       replace hD := hid (hD.out.below b9)
       clear b9
       go_wp2_with fail
       refine hK.out _ _ ?hS26 (fun hHeld => ?re26)
       case hS26 => exact hM.out.cl
       clear hK K
       try simp only [Act.put, sA, sB, sC]
       refine tkH 10 4 hHeld ?_
       try simp only [Act.put, sA, sB, sC]
       refine tkH 11 3 hHeld ?_
       try simp only [Act.put, sA, sB, sC]
       refine tkH 12 2 hHeld ?_
       try simp only [Act.put, sA, sB, sC]
       refine wpAnyH_ready (fuel := 1) (rs := [14]) (by kernel_rfl) (by simp) ?_
       refine AllReadyH.cons (by rw [List.getElem?_toArray]; rfl) (fun K hK => ?_) AllReadyH.nil
       obtain ⟨g0, g1, g2, g3, g4⟩ := Box5.cells hX.out
       have gf := Box5.frozen hX.out
       have gl := Box5.lt hX.out
       go_simp
       clear g0 g1 g2 g3 g4 gf gl
       refine hK.out _ _ ?hS30 (fun hHeld => ?re30)
       case hS30 => exact Box5.cells (Box5.st5o (Y := X) hM.out.box (by omega) kz t R (.slice a2 KS.length c2) (.slice b2 VS.length d2))
       clear hK K
       try simp only [Act.put, sA, sB, sC]
       refine tkH 15 0 hHeld ?_
       try simp only [Act.put, sA, sB, sC]
       refine wpAnyH_done (by kernel_rfl) ?_ _
       clear hHeld
       have hX1 := hid (Box5.st5 hX.out (k' := kz) (s' := t) (r' := R) (v' := .slice a2 KS.length c2) (u' := .slice b2 VS.length d2))
       have hR1 := hid (RW.st5 hX.out hR.out (k' := kz) (s' := t) (r' := R) (v' := .slice a2 KS.length c2) (u' := .slice b2 VS.length d2))
       have hM1 := hid (Box5.st5o (w := wr9) (Y := X) hM.out.box (by omega) kz t R (.slice a2 KS.length c2) (.slice b2 VS.length d2))
       have hQ1 := hid (Box5.st5o hQ.out (Y := X) (by omega) kz t R (.slice a2 KS.length c2) (.slice b2 VS.length d2))
       have hD1 := hid (hD.out.st5 X kz t R (.slice a2 KS.length c2) (.slice b2 VS.length d2) (by omega))
       clear hX hR hM hQ hD
       have hX := hX1.out
       have hR := hR1.out
       have hM := hM1.out
       have hQ := hQ1.out
       have hD := hD1.out
       clear hX1 hR1 hM1 hQ1 hD1
       unfold st5 at hX hR hM hQ hD
       generalize (((((wr9.setCell ⟨X, 0, none⟩ (.int .i64 kz)).setCell ⟨X, 1, none⟩ (.int .i64 t)).setCell ⟨X, 2, none⟩ (.int .i64 R)).setCell ⟨X, 3, none⟩ (.slice a2 KS.length c2)).setCell ⟨X, 4, none⟩ (.slice b2 VS.length d2)) = wz at *
       have HX := hid hX
       have HR := hid hR
       have HM := hid hM
       have HQ := hid hQ
       have HK := hid hD
       clear hX hR hM hQ hD
       obtain ⟨x0, x1, x2, x3, x4⟩ := Box5.cells HX.out
       obtain ⟨y0, y1, y2, y3, y4⟩ := Box5.cells HM.out
       have fM := Box5.frozen HM.out
       have lM := Box5.lt HM.out
       have lX := Box5.lt HX.out
       go_wp2_with fail
       have M2 := Box5.st5 HM.out (k' := kz) (s' := t) (r' := R) (v' := .slice a2 KS.length c2) (u' := .slice b2 VS.length d2)
       have R2 := RW.st5 HM.out HR.out (k' := kz) (s' := t) (r' := R) (v' := .slice a2 KS.length c2) (u' := .slice b2 VS.length d2)
       have Q2 := Box5.st5o HQ.out (Y := M) (by omega) kz t R (.slice a2 KS.length c2) (.slice b2 VS.length d2)
       have K2 := HK.out.st5 M kz t R (.slice a2 KS.length c2) (.slice b2 VS.length d2) (by omega)
       unfold st5 at M2 R2 Q2 K2
       refine ⟨?_, by simp [intOf]; omega⟩
       exact ⟨j - 1, kz, t, R, KS, VS, a2, b2, c2, d2, q2, by rw [pred_int (by omega)], by omega, ⟨M2, R2⟩, Q2, K2, ba2.out, bb2.out, ht8, by omega, by omega, by omega⟩
      exact AllReadyH.nil
     refine AllReadyH.cons (o := ?oi32) ?hi32 (fun K hK => ?st32) ?mo32
     case hi32 => rw [List.getElem?_toArray]; rfl
     case st32 =>
      go_simp
      have ba : Below wr3.heap.size wr3 (wr3.alloc (.cells #[.int .i64 0, .int .i64 0, .int .i64 0, .slice none 0 0, .slice none 0 0] 89)) := (Below.refl _ _).alloc (Nat.le_refl _) _
      have lXM := hM.out.lt
      have lXQ := hQ.out.lt
      have lXB := hD.out.rs.lt
      have hX : Hid (Box5 (wr3.alloc (.cells #[.int .i64 0, .int .i64 0, .int .i64 0, .slice none 0 0, .slice none 0 0] 89)) wr3.heap.size 0 0 0 (.slice none 0 0) (.slice none 0 0)) := World.alloc_heap_new wr3 _
      replace hM := hid (hM.out.below ba)
      replace hQ := hid (hQ.out.bel ba)
      replace hD := hid (hD.out.below ba)
      clear ba
      generalize wr3.alloc (.cells #[.int .i64 0, .int .i64 0, .int .i64 0, .slice none 0 0, .slice none 0 0] 89) = wr13 at *
      generalize wr3.heap.size = X at *
      refine hK.out _ _ ?hS32 (fun hHeld => ?re32)
      case hS32 => exact hM.out.cl
      clear hK K
      try simp only [Act.put, sA, sB, sC]
      refine wpAnyH_ready (fuel := 7) (rs := [5]) (by kernel_rfl) (by simp) ?_
      refine AllReadyH.cons (by rw [List.getElem?_toArray]; rfl) (fun K hK => ?_) AllReadyH.nil
      go_simp
      refine (number_k hD.out.rs (by omega)).mono ?_
      rintro ee wr5 ⟨v, q2, rfl, hv, hq2, k5⟩
      replace hM := hid (hM.out.kept (by omega) hD.out.rs k5)
      replace hQ := hid (hQ.out.k3 (by omega) k5)
      replace hX := hid (hX.out.k3 (by omega) k5)
      replace hD := hid (hD.out.draw k5)
      clear k5
      go_wp2_with fail
      refine hK.out _ _ ?hS33 (fun hHeld => ?re33)
      case hS33 => exact hM.out.cl
      clear hK K
      try simp only [Act.put, sA, sB, sC]
      refine wpAnyH_ready (fuel := 6) (rs := [8]) (by kernel_rfl) (by simp) ?_
      refine AllReadyH.cons (by rw [List.getElem?_toArray]; rfl) (fun K hK => ?_) AllReadyH.nil
      go_simp
      refine (l4Bytes_c v s _ hs).mono ?_
      rintro ee wr8 ⟨val, rfl, hval, b8⟩
      replace hM := hid (hM.out.below b8)
      replace hQ := hid (hQ.out.bel b8)
      replace hX := hid (hX.out.bel b8)
      replace hD := hid (hD.out.below b8)
      clear b8
      go_wp2_with fail
      refine hK.out _ _ ?hS34 (fun hHeld => ?re34)
      case hS34 => exact hM.out.cl
      clear hK K
      try simp only [Act.put, sA, sB, sC]
      refine wpAnyH_ready (fuel := 5) (rs := [9]) (by kernel_rfl) (by simp) ?_
      refine AllReadyH.cons (by rw [List.getElem?_toArray]; rfl) (fun K hK => ?_) AllReadyH.nil
      go_simp
      refine (sput_b k s r ks vs a1 b1 c1 d1 key val (by omega) _ hM.out.rw (by omega) (by omega)).mono ?_
      rintro ee wr9 ⟨a2, b2, c2, d2, rfl, hr, ba0, bb0, b9⟩
      have ba2 := hid (ba0.mono hD.out.kp.1)
      have bb2 := hid (bb0.mono hD.out.kp.1)
      clear ba0 bb0
      have hR := hid hr
      clear hr
      obtain ⟨t, ht, ht8, hkl, hvl⟩ := putT_b k s r ks vs key val hs
      generalize putT k s r ks vs key val = tt at *
      obtain ⟨kz, S, R, KS, VS, C⟩ := tt
      dsimp only at ht hkl hvl hR
      subst ht
      replace hM := hid (hM.out.below b9)
      replace hQ := hid (hQ.out.bel b9)
      replace hX := hid (hX.out.bel b9)
      replace hD := hid (hD.out.below b9)
      clear b9
      go_wp2_with fail
      refine hK.out _ _ ?hS35 (fun hHeld => ?re35)
      case hS35 => exact hM.out.cl
      clear hK K
      try simp only [Act.put, sA, sB, sC]
      refine tkH 10 4 hHeld ?_
      try simp only [Act.put, sA, sB, sC]
      refine tkH 11 3 hHeld ?_
      try simp only [Act.put, sA, sB, sC]
      refine tkH 12 2 hHeld ?_
      try simp only [Act.put, sA, sB, sC]
      refine wpAnyH_ready (fuel := 1) (rs := [14]) (by kernel_rfl) (by simp) ?_
      refine AllReadyH.cons (by rw [List.getElem?_toArray]; rfl) (fun K hK => ?_) AllReadyH.nil
      obtain ⟨g0, g1, g2, g3, g4⟩ := Box5.cells hX.out
      have gf := Box5.frozen hX.out
      have gl := Box5.lt hX.out
      go_simp
      clear g0 g1 g2 g3 g4 gf gl
      refine hK.out _ _ ?hS39 (fun hHeld => ?re39)
      case hS39 => exact Box5.cells (Box5.st5o (Y := X) hM.out.box (by omega) kz t R (.slice a2 KS.length c2) (.slice b2 VS.length d2))
      clear hK K
      try simp only [Act.put, sA, sB, sC]
      refine tkH 15 0 hHeld ?_
      try simp only [Act.put, sA, sB, sC]
      refine wpAnyH_done (by kernel_rfl) ?_ _
      clear hHeld
      have hX1 := hid (Box5.st5 hX.out (k' := kz) (s' := t) (r' := R) (v' := .slice a2 KS.length c2) (u' := .slice b2 VS.length d2))
      have hR1 := hid (RW.st5 hX.out hR.out (k' := kz) (s' := t) (r' := R) (v' := .slice a2 KS.length c2) (u' := .slice b2 VS.length d2))
      have hM1 := hid (Box5.st5o (w := wr9) (Y := X) hM.out.box (by omega) kz t R (.slice a2 KS.length c2) (.slice b2 VS.length d2))
      have hQ1 := hid (Box5.st5o hQ.out (Y := X) (by omega) kz t R (.slice a2 KS.length c2) (.slice b2 VS.length d2))
      have hD1 := hid (hD.out.st5 X kz t R (.slice a2 KS.length c2) (.slice b2 VS.length d2) (by omega))
      clear hX hR hM hQ hD
      have hX := hX1.out
      have hR := hR1.out
      have hM := hM1.out
      have hQ := hQ1.out
      have hD := hD1.out
      clear hX1 hR1 hM1 hQ1 hD1
      unfold st5 at hX hR hM hQ hD
      generalize (((((wr9.setCell ⟨X, 0, none⟩ (.int .i64 kz)).setCell ⟨X, 1, none⟩ (.int .i64 t)).setCell ⟨X, 2, none⟩ (.int .i64 R)).setCell ⟨X, 3, none⟩ (.slice a2 KS.length c2)).setCell ⟨X, 4, none⟩ (.slice b2 VS.length d2)) = wz at *
      have HX := hid hX
      have HR := hid hR
      have HM := hid hM
      have HQ := hid hQ
      have HK := hid hD
      clear hX hR hM hQ hD
      obtain ⟨x0, x1, x2, x3, x4⟩ := Box5.cells HX.out
      obtain ⟨y0, y1, y2, y3, y4⟩ := Box5.cells HM.out
      have fM := Box5.frozen HM.out
      have lM := Box5.lt HM.out
      have lX := Box5.lt HX.out
      go_wp2_with fail
      have M2 := Box5.st5 HM.out (k' := kz) (s' := t) (r' := R) (v' := .slice a2 KS.length c2) (u' := .slice b2 VS.length d2)
      have R2 := RW.st5 HM.out HR.out (k' := kz) (s' := t) (r' := R) (v' := .slice a2 KS.length c2) (u' := .slice b2 VS.length d2)
      have Q2 := Box5.st5o HQ.out (Y := M) (by omega) kz t R (.slice a2 KS.length c2) (.slice b2 VS.length d2)
      have K2 := HK.out.st5 M kz t R (.slice a2 KS.length c2) (.slice b2 VS.length d2) (by omega)
      unfold st5 at M2 R2 Q2 K2
      refine ⟨?_, by simp [intOf]; omega⟩
      exact ⟨j - 1, kz, t, R, KS, VS, a2, b2, c2, d2, q2, by rw [pred_int (by omega)], by omega, ⟨M2, R2⟩, Q2, K2, ba2.out, bb2.out, ht8, by omega, by omega, by omega⟩
     exact AllReadyH.nil
    refine AllReadyH.cons (o := ?oi41) ?hi41 (fun K hK => ?st41) ?mo41
    case hi41 => rw [List.getElem?_toArray]; rfl
    case st41 =>
     go_simp
     have ba : Below wr2.heap.size wr2 (wr2.alloc (.cells #[.int .i64 0, .int .i64 0, .int .i64 0, .slice none 0 0, .slice none 0 0] 89)) := (Below.refl _ _).alloc (Nat.le_refl _) _
     have lXM := hM.out.lt
     have lXQ := hQ.out.lt
     have lXB := hD.out.rs.lt
     have hX : Hid (Box5 (wr2.alloc (.cells #[.int .i64 0, .int .i64 0, .int .i64 0, .slice none 0 0, .slice none 0 0] 89)) wr2.heap.size 0 0 0 (.slice none 0 0) (.slice none 0 0)) := World.alloc_heap_new wr2 _
     replace hM := hid (hM.out.below ba)
     replace hQ := hid (hQ.out.bel ba)
     replace hL := hid (hL.out.below ba)
     replace hD := hid (hD.out.below ba)
     clear ba
     generalize wr2.alloc (.cells #[.int .i64 0, .int .i64 0, .int .i64 0, .slice none 0 0, .slice none 0 0] 89) = wr13 at *
     generalize wr2.heap.size = X at *
     refine hK.out _ _ ?hS41 (fun hHeld => ?re41)
     case hS41 => exact hM.out.cl
     clear hK K
     try simp only [Act.put, sA, sB, sC]
     refine wpAnyH_ready (fuel := 8) (rs := [3]) (by kernel_rfl) (by simp) ?_
     refine AllReadyH.cons (by rw [List.getElem?_toArray]; rfl) (fun K hK => ?_) AllReadyH.nil
     go_simp
     refine (one_l hD.out.rs (by omega) L [0, 1, 2, 3, 7, 200, 4294967295] (by omega) hL.out (by decide) (by decide)).mono ?_
     rintro ee wr3 ⟨key, hkey, rfl, k3⟩
     clear hkey hL
     replace hM := hid (hM.out.kept (by omega) hD.out.rs k3)
     replace hQ := hid (hQ.out.k3 (by omega) k3)
     replace hX := hid (hX.out.k3 (by omega) k3)
     replace hD := hid (hD.out.draw k3)
     clear k3
     go_wp2_with fail
     refine hK.out _ _ ?hS42 (fun hHeld => ?re42)
     case hS42 => exact hM.out.cl
     clear hK K
     try simp only [Act.put, sA, sB, sC]
     refine wpAnyH_ready (fuel := 7) (rs := [5]) (by kernel_rfl) (by simp) ?_
     refine AllReadyH.cons (by rw [List.getElem?_toArray]; rfl) (fun K hK => ?_) AllReadyH.nil
     go_simp
     refine (number_k hD.out.rs (by omega)).mono ?_
     rintro ee wr5 ⟨v, q2, rfl, hv, hq2, k5⟩
     replace hM := hid (hM.out.kept (by omega) hD.out.rs k5)
     replace hQ := hid (hQ.out.k3 (by omega) k5)
     replace hX := hid (hX.out.k3 (by omega) k5)
     replace hD := hid (hD.out.draw k5)
     clear k5
     go_wp2_with fail
     refine hK.out _ _ ?hS43 (fun hHeld => ?re43)
     case hS43 => exact hM.out.cl
     clear hK K
     try simp only [Act.put, sA, sB, sC]
     refine wpAnyH_ready (fuel := 6) (rs := [8]) (by kernel_rfl) (by simp) ?_
     refine AllReadyH.cons (by rw [List.getElem?_toArray]; rfl) (fun K hK => ?_) AllReadyH.nil
     go_simp
     refine (l4Bytes_c v s _ hs).mono ?_
     rintro ee wr8 ⟨val, rfl, hval, b8⟩
     replace hM := hid (hM.out.below b8)
     replace hQ := hid (hQ.out.bel b8)
     replace hX := hid (hX.out.bel b8)
     replace hD := hid (hD.out.below b8)
     clear b8
     go_wp2_with fail
     refine hK.out _ _ ?hS44 (fun hHeld => ?re44)
     case hS44 => exact hM.out.cl
     clear hK K
     try simp only [Act.put, sA, sB, sC]
     refine wpAnyH_ready (fuel := 5) (rs := [9]) (by kernel_rfl) (by simp) ?_
     refine AllReadyH.cons (by rw [List.getElem?_toArray]; rfl) (fun K hK => ?_) AllReadyH.nil
     go_simp
     refine (sput_b k s r ks vs a1 b1 c1 d1 key val (by omega) _ hM.out.rw (by omega) (by omega)).mono ?_
     rintro ee wr9 ⟨a2, b2, c2, d2, rfl, hr, ba0, bb0, b9⟩
     have ba2 := hid (ba0.mono hD.out.kp.1)
     have bb2 := hid (bb0.mono hD.out.kp.1)
     clear ba0 bb0
     have hR := hid hr
     clear hr
     obtain ⟨t, ht, ht8, hkl, hvl⟩ := putT_b k s r ks vs key val hs
     generalize putT k s r ks vs key val = tt at *
     obtain ⟨kz, S, R, KS, VS, C⟩ := tt
     dsimp only at ht hkl hvl hR
     subst ht
     replace hM := hid (hM.out.below b9)
     replace hQ := hid (hQ.out.bel b9)
     replace hX := hid (hX.out.bel b9)
     replace hD := hid (hD.out.below b9)
     clear b9
     go_wp2_with fail
     refine hK.out _ _ ?hS45 (fun hHeld => ?re45)
     case hS45 => exact hM.out.cl
     clear hK K
     try simp only [Act.put, sA, sB, sC]
     refine tkH 10 4 hHeld ?_
     try simp only [Act.put, sA, sB, sC]
     refine tkH 11 3 hHeld ?_
     try simp only [Act.put, sA, sB, sC]
     refine tkH 12 2 hHeld ?_
     try simp only [Act.put, sA, sB, sC]
     refine wpAnyH_ready (fuel := 1) (rs := [14]) (by kernel_rfl) (by simp) ?_
     refine AllReadyH.cons (by rw [List.getElem?_toArray]; rfl) (fun K hK => ?_) AllReadyH.nil
     obtain ⟨g0, g1, g2, g3, g4⟩ := Box5.cells hX.out
     have gf := Box5.frozen hX.out
     have gl := Box5.lt hX.out
     go_simp
     clear g0 g1 g2 g3 g4 gf gl
     refine hK.out _ _ ?hS49 (fun hHeld => ?re49)
     case hS49 => exact Box5.cells (Box5.st5o (Y := X) hM.out.box (by omega) kz t R (.slice a2 KS.length c2) (.slice b2 VS.length d2))
     clear hK K
     try simp only [Act.put, sA, sB, sC]
     refine tkH 15 0 hHeld ?_
     try simp only [Act.put, sA, sB, sC]
     refine wpAnyH_done (by kernel_rfl) ?_ _
     clear hHeld
     have hX1 := hid (Box5.st5 hX.out (k' := kz) (s' := t) (r' := R) (v' := .slice a2 KS.length c2) (u' := .slice b2 VS.length d2))
     have hR1 := hid (RW.st5 hX.out hR.out (k' := kz) (s' := t) (r' := R) (v' := .slice a2 KS.length c2) (u' := .slice b2 VS.length d2))
     have hM1 := hid (Box5.st5o (w := wr9) (Y := X) hM.out.box (by omega) kz t R (.slice a2 KS.length c2) (.slice b2 VS.length d2))
     have hQ1 := hid (Box5.st5o hQ.out (Y := X) (by omega) kz t R (.slice a2 KS.length c2) (.slice b2 VS.length d2))
     have hD1 := hid (hD.out.st5 X kz t R (.slice a2 KS.length c2) (.slice b2 VS.length d2) (by omega))
     clear hX hR hM hQ hD
     have hX := hX1.out
     have hR := hR1.out
     have hM := hM1.out
     have hQ := hQ1.out
     have hD := hD1.out
     clear hX1 hR1 hM1 hQ1 hD1
     unfold st5 at hX hR hM hQ hD
     generalize (((((wr9.setCell ⟨X, 0, none⟩ (.int .i64 kz)).setCell ⟨X, 1, none⟩ (.int .i64 t)).setCell ⟨X, 2, none⟩ (.int .i64 R)).setCell ⟨X, 3, none⟩ (.slice a2 KS.length c2)).setCell ⟨X, 4, none⟩ (.slice b2 VS.length d2)) = wz at *
     have HX := hid hX
     have HR := hid hR
     have HM := hid hM
     have HQ := hid hQ
     have HK := hid hD
     clear hX hR hM hQ hD
     obtain ⟨x0, x1, x2, x3, x4⟩ := Box5.cells HX.out
     obtain ⟨y0, y1, y2, y3, y4⟩ := Box5.cells HM.out
     have fM := Box5.frozen HM.out
     have lM := Box5.lt HM.out
     have lX := Box5.lt HX.out
     go_wp2_with fail
     have M2 := Box5.st5 HM.out (k' := kz) (s' := t) (r' := R) (v' := .slice a2 KS.length c2) (u' := .slice b2 VS.length d2)
     have R2 := RW.st5 HM.out HR.out (k' := kz) (s' := t) (r' := R) (v' := .slice a2 KS.length c2) (u' := .slice b2 VS.length d2)
     have Q2 := Box5.st5o HQ.out (Y := M) (by omega) kz t R (.slice a2 KS.length c2) (.slice b2 VS.length d2)
     have K2 := HK.out.st5 M kz t R (.slice a2 KS.length c2) (.slice b2 VS.length d2) (by omega)
     unfold st5 at M2 R2 Q2 K2
     refine ⟨?_, by simp [intOf]; omega⟩
     exact ⟨j - 1, kz, t, R, KS, VS, a2, b2, c2, d2, q2, by rw [pred_int (by omega)], by omega, ⟨M2, R2⟩, Q2, K2, ba2.out, bb2.out, ht8, by omega, by omega, by omega⟩
    exact AllReadyH.nil
   refine AllReadyH.cons (o := ?oi51) ?hi51 (fun K hK => ?st51) ?mo51
   case hi51 => rw [List.getElem?_toArray]; rfl
   case st51 =>
    go_simp
    have ba : Below W1.heap.size W1 (W1.alloc (.cells #[.int .i64 0, .int .i64 0, .int .i64 0, .slice none 0 0, .slice none 0 0] 89)) := (Below.refl _ _).alloc (Nat.le_refl _) _
    have lXM := hM.out.lt
    have lXQ := hQ.out.lt
    have lXB := hD.out.rs.lt
    have hX : Hid (Box5 (W1.alloc (.cells #[.int .i64 0, .int .i64 0, .int .i64 0, .slice none 0 0, .slice none 0 0] 89)) W1.heap.size 0 0 0 (.slice none 0 0) (.slice none 0 0)) := World.alloc_heap_new W1 _
    replace hM := hid (hM.out.below ba)
    replace hQ := hid (hQ.out.bel ba)
    replace hD := hid (hD.out.below ba)
    clear ba
    generalize W1.alloc (.cells #[.int .i64 0, .int .i64 0, .int .i64 0, .slice none 0 0, .slice none 0 0] 89) = wr13 at *
    generalize W1.heap.size = X at *
    refine hK.out _ _ ?hS51 (fun hHeld => ?re51)
    case hS51 => exact hM.out.cl
    clear hK K
    try simp only [Act.put, sA, sB, sC]
    refine wpAnyH_ready (fuel := 9) (rs := [2]) (by kernel_rfl) (by simp) ?_
    refine AllReadyH.cons (by rw [List.getElem?_toArray]; rfl) (fun K hK => ?_) AllReadyH.nil
    go_simp
    have ba : Below wr13.heap.size wr13 (wr13.alloc (.cells #[.int .i64 0, .int .i64 1, .int .i64 2, .int .i64 3, .int .i64 7, .int .i64 200, .int .i64 4294967295] 3)) := (Below.refl _ _).alloc (Nat.le_refl _) _
    have lLM := hM.out.lt
    have lLQ := hQ.out.lt
    have lLB := hD.out.rs.lt
    have hL := hid (LI.new wr13 [0, 1, 2, 3, 7, 200, 4294967295] 3)
    replace hL : Hid (LI (wr13.alloc (.cells #[.int .i64 0, .int .i64 1, .int .i64 2, .int .i64 3, .int .i64 7, .int .i64 200, .int .i64 4294967295] 3)) wr13.heap.size [0, 1, 2, 3, 7, 200, 4294967295]) := hL
    replace hM := hid (hM.out.below ba)
    replace hQ := hid (hQ.out.bel ba)
    replace hX := hid (hX.out.bel ba)
    replace hD := hid (hD.out.below ba)
    clear ba
    generalize wr13.alloc (.cells #[.int .i64 0, .int .i64 1, .int .i64 2, .int .i64 3, .int .i64 7, .int .i64 200, .int .i64 4294967295] 3) = wr2 at *
    generalize wr13.heap.size = L at *
    refine hK.out _ _ ?hS52 (fun hHeld => ?re52)
    case hS52 => exact hM.out.cl
    clear hK K
    try simp only [Act.put, sA, sB, sC]
    refine wpAnyH_ready (fuel := 8) (rs := [3]) (by kernel_rfl) (by simp) ?_
    refine AllReadyH.cons (by rw [List.getElem?_toArray]; rfl) (fun K hK => ?_) AllReadyH.nil
    go_simp
    refine (one_l hD.out.rs (by omega) L [0, 1, 2, 3, 7, 200, 4294967295] (by omega) hL.out (by decide) (by decide)).mono ?_
    rintro ee wr3 ⟨key, hkey, rfl, k3⟩
    clear hkey hL
    replace hM := hid (hM.out.kept (by omega) hD.out.rs k3)
    replace hQ := hid (hQ.out.k3 (by omega) k3)
    replace hX := hid (hX.out.k3 (by omega) k3)
    replace hD := hid (hD.out.draw k3)
    clear k3
    go_wp2_with fail
    refine hK.out _ _ ?hS53 (fun hHeld => ?re53)
    case hS53 => exact hM.out.cl
    clear hK K
    try simp only [Act.put, sA, sB, sC]
    refine wpAnyH_ready (fuel := 7) (rs := [5]) (by kernel_rfl) (by simp) ?_
    refine AllReadyH.cons (by rw [List.getElem?_toArray]; rfl) (fun K hK => ?_) AllReadyH.nil
    go_simp
    refine (number_k hD.out.rs (by omega)).mono ?_
    rintro ee wr5 ⟨v, q2, rfl, hv, hq2, k5⟩
    replace hM := hid (hM.out.kept (by omega) hD.out.rs k5)
    replace hQ := hid (hQ.out.k3 (by omega) k5)
    replace hX := hid (hX.out.k3 (by omega) k5)
    replace hD := hid (hD.out.draw k5)
    clear k5
    go_wp2_with fail
    refine hK.out _ _ ?hS54 (fun hHeld => ?re54)
    case hS54 => exact hM.out.cl
    clear hK K
    try simp only [Act.put, sA, sB, sC]
    refine wpAnyH_ready (fuel := 6) (rs := [8]) (by kernel_rfl) (by simp) ?_
    refine AllReadyH.cons (by rw [List.getElem?_toArray]; rfl) (fun K hK => ?_) AllReadyH.nil
    go_simp
    refine (l4Bytes_c v s _ hs).mono ?_
    rintro ee wr8 ⟨val, rfl, hval, b8⟩
    replace hM := hid (hM.out.below b8)
    replace hQ := hid (hQ.out.bel b8)
    replace hX := hid (hX.out.bel b8)
    replace hD := hid (hD.out.below b8)
    clear b8
    go_wp2_with fail
    refine hK.out _ _ ?hS55 (fun hHeld => ?re55)
    case hS55 => exact hM.out.cl
    clear hK K
    try simp only [Act.put, sA, sB, sC]
    refine wpAnyH_ready (fuel := 5) (rs := [9]) (by kernel_rfl) (by simp) ?_
    refine AllReadyH.cons (by rw [List.getElem?_toArray]; rfl) (fun K hK => ?_) AllReadyH.nil
    go_simp
    refine (sput_b k s r ks vs a1 b1 c1 d1 key val (by omega) _ hM.out.rw (by omega) (by omega)).mono ?_
    rintro ee wr9 ⟨a2, b2, c2, d2, rfl, hr, ba0, bb0, b9⟩
    have ba2 := hid (ba0.mono hD.out.kp.1)
    have bb2 := hid (bb0.mono hD.out.kp.1)
    clear ba0 bb0
    have hR := hid hr
    clear hr
    obtain ⟨t, ht, ht8, hkl, hvl⟩ := putT_b k s r ks vs key val hs
    generalize putT k s r ks vs key val = tt at *
    obtain ⟨kz, S, R, KS, VS, C⟩ := tt
    dsimp only at ht hkl hvl hR
    subst ht
    replace hM := hid (hM.out.below b9)
    replace hQ := hid (hQ.out.bel b9)
    replace hX := hid (hX.out.bel b9)
    replace hD := hid (hD.out.below b9)
    clear b9
    go_wp2_with fail
    refine hK.out _ _ ?hS56 (fun hHeld => ?re56)
    case hS56 => exact hM.out.cl
    clear hK K
    try simp only [Act.put, sA, sB, sC]
    refine tkH 10 4 hHeld ?_
    try simp only [Act.put, sA, sB, sC]
    refine tkH 11 3 hHeld ?_
    try simp only [Act.put, sA, sB, sC]
    refine tkH 12 2 hHeld ?_
    try simp only [Act.put, sA, sB, sC]
    refine wpAnyH_ready (fuel := 1) (rs := [14]) (by kernel_rfl) (by simp) ?_
    refine AllReadyH.cons (by rw [List.getElem?_toArray]; rfl) (fun K hK => ?_) AllReadyH.nil
    obtain ⟨g0, g1, g2, g3, g4⟩ := Box5.cells hX.out
    have gf := Box5.frozen hX.out
    have gl := Box5.lt hX.out
    go_simp
    clear g0 g1 g2 g3 g4 gf gl
    refine hK.out _ _ ?hS60 (fun hHeld => ?re60)
    case hS60 => exact Box5.cells (Box5.st5o (Y := X) hM.out.box (by omega) kz t R (.slice a2 KS.length c2) (.slice b2 VS.length d2))
    clear hK K
    try simp only [Act.put, sA, sB, sC]
    refine tkH 15 0 hHeld ?_
    try simp only [Act.put, sA, sB, sC]
    refine wpAnyH_done (by kernel_rfl) ?_ _
    clear hHeld
    have hX1 := hid (Box5.st5 hX.out (k' := kz) (s' := t) (r' := R) (v' := .slice a2 KS.length c2) (u' := .slice b2 VS.length d2))
    have hR1 := hid (RW.st5 hX.out hR.out (k' := kz) (s' := t) (r' := R) (v' := .slice a2 KS.length c2) (u' := .slice b2 VS.length d2))
    have hM1 := hid (Box5.st5o (w := wr9) (Y := X) hM.out.box (by omega) kz t R (.slice a2 KS.length c2) (.slice b2 VS.length d2))
    have hQ1 := hid (Box5.st5o hQ.out (Y := X) (by omega) kz t R (.slice a2 KS.length c2) (.slice b2 VS.length d2))
    have hD1 := hid (hD.out.st5 X kz t R (.slice a2 KS.length c2) (.slice b2 VS.length d2) (by omega))
    clear hX hR hM hQ hD
    have hX := hX1.out
    have hR := hR1.out
    have hM := hM1.out
    have hQ := hQ1.out
    have hD := hD1.out
    clear hX1 hR1 hM1 hQ1 hD1
    unfold st5 at hX hR hM hQ hD
    generalize (((((wr9.setCell ⟨X, 0, none⟩ (.int .i64 kz)).setCell ⟨X, 1, none⟩ (.int .i64 t)).setCell ⟨X, 2, none⟩ (.int .i64 R)).setCell ⟨X, 3, none⟩ (.slice a2 KS.length c2)).setCell ⟨X, 4, none⟩ (.slice b2 VS.length d2)) = wz at *
    have HX := hid hX
    have HR := hid hR
    have HM := hid hM
    have HQ := hid hQ
    have HK := hid hD
    clear hX hR hM hQ hD
    obtain ⟨x0, x1, x2, x3, x4⟩ := Box5.cells HX.out
    obtain ⟨y0, y1, y2, y3, y4⟩ := Box5.cells HM.out
    have fM := Box5.frozen HM.out
    have lM := Box5.lt HM.out
    have lX := Box5.lt HX.out
    go_wp2_with fail
    have M2 := Box5.st5 HM.out (k' := kz) (s' := t) (r' := R) (v' := .slice a2 KS.length c2) (u' := .slice b2 VS.length d2)
    have R2 := RW.st5 HM.out HR.out (k' := kz) (s' := t) (r' := R) (v' := .slice a2 KS.length c2) (u' := .slice b2 VS.length d2)
    have Q2 := Box5.st5o HQ.out (Y := M) (by omega) kz t R (.slice a2 KS.length c2) (.slice b2 VS.length d2)
    have K2 := HK.out.st5 M kz t R (.slice a2 KS.length c2) (.slice b2 VS.length d2) (by omega)
    unfold st5 at M2 R2 Q2 K2
    refine ⟨?_, by simp [intOf]; omega⟩
    exact ⟨j - 1, kz, t, R, KS, VS, a2, b2, c2, d2, q2, by rw [pred_int (by omega)], by omega, ⟨M2, R2⟩, Q2, K2, ba2.out, bb2.out, ht8, by omega, by omega, by omega⟩
   exact AllReadyH.nil
  ·obtain rfl : j = 0 := by omega
   have R5 := RW.st5 HQ.out HM.out.rw (k' := k) (s' := s) (r' := r) (v' := .slice a1 ks.length c1) (u' := .slice b1 vs.length d1)
   have K5 := HK.out.st5 w.heap.size k s r (.slice a1 ks.length c1) (.slice b1 vs.length d1) (Nat.le_refl _)
   have P5 := Box5.cells (Box5.st5 HQ.out (k' := k) (s' := s) (r' := r) (v' := .slice a1 ks.length c1) (u' := .slice b1 vs.length d1))
   obtain ⟨x0, x1, x2, x3, x4⟩ := HM.out.cl
   obtain ⟨y0, y1, y2, y3, y4⟩ := Box5.cells HQ.out
   have fQ := Box5.frozen HQ.out
   have lM := HM.out.lt
   have lQ2 := HQ.out.lt
   have HR5 := hid R5
   have HK5 := hid K5
   have HP5 := hid P5
   clear R5 K5 P5
   go_wp2_with fail
   obtain ⟨p0, p1, p2, p3, p4⟩ := HP5.out
   unfold st5 at p0 p1 p2 p3 p4
   refine bodyPost_ret (v := .agg #[.int .i64 k, .int .i64 s, .int .i64 r, .slice a1 ks.length c1, .slice b1 vs.length d1]) (by simp [results, Try.results55, go_sem, p0, p1, p2, p3, p4]) rfl ?_
   exact ⟨k, s, r, ks, vs, a1, b1, c1, d1, q, rfl, HR5.out, ba1.out, bb1.out, hs, by omega, by omega, by omega, HK5.out⟩
end Go.Proofs.Ytkaekiodjjhjkaa.G
namespace Go.Proofs.Ytkaekiodjjhjkaa
open Go.RowKit
def rdA (a : Option Addr) (len cap p : Nat) : Array Value := #[.slice a len cap, .int .i64 ((p : Nat) : Int)]
theorem RS.bx {w0 w : World} {B : Nat} {a : Option Addr} {len cap p : Nat} (h : RS w0 w B a len cap p) : BX w B 67 (rdA a len cap p) := h.box
theorem RS.kb {w0 w w' : World} {B : Nat} {a : Option Addr} {len cap p q : Nat} (h : RS w0 w B a len cap p) (k : KB [B] w w') (hx : BX w' B 67 (rdA a len cap q)) : RS w0 w' B a len cap q := by
 have hb := h.bel
 have hg := h.ge
 exact ⟨hx, h.ge, ⟨k.os.trans hb.os, k.tape.trans hb.tape, k.output.trans hb.output, Nat.le_trans hb.size k.size, fun j hj => (k.block j (Nat.lt_of_lt_of_le hj hb.size) (by simp; omega)).trans (hb.block j hj)⟩, h.src, h.le⟩
theorem RS.keep {w0 w w' : World} {B : Nat} {a : Option Addr} {len cap p q : Nat} (h : RS w0 w B a len cap p) (h1 : RS w0 w' B a len cap q) (hs : w.heap.size ≤ w'.heap.size) (hb : ∀ k, k < w.heap.size → k ≠ B → w'.heap[k]? = w.heap[k]?) : KB [B] w w' ∧ BX w' B 67 (rdA a len cap q) :=
 ⟨⟨h1.bel.os.trans h.bel.os.symm, h1.bel.tape.trans h.bel.tape.symm, h1.bel.output.trans h.bel.output.symm, hs, fun k hk hS => hb k hk (by simpa using hS)⟩, h1.box⟩
theorem K3.keep {w0 w w' : World} {B : Nat} {a : Option Addr} {len cap p q : Nat} (h : RS w0 w B a len cap p) (k : K3 w0 w w' B a len cap q) : KB [B] w w' ∧ BX w' B 67 (rdA a len cap q) := h.keep k.rs k.kp.1 k.kp.2
def Draws {α : Type} (w : World) (B : Nat) (v : α → Value) (T : TypeId) (A : α → Array Value) (Φ : α → Prop) (e : Ending) (w' : World) : Prop :=
 ∃ x : α, e = .returned (v x) ∧ Φ x ∧ KB [B] w w' ∧ BX w' B T (A x)
def DrawsN {α : Type} (w : World) (B : Nat) (v : α → Nat → Value) (T1 : TypeId) (A1 : α → Array Value) (T : TypeId) (A : α → Array Value) (Φ : α → Prop) (e : Ending) (w' : World) : Prop :=
 ∃ (x : α) (b : Nat), e = .returned (v x b) ∧ Φ x ∧ BX w' b T1 (A1 x) ∧ w.heap.size ≤ b ∧ KB [B] w w' ∧ BX w' B T (A x)
section
variable {P : Program} {ops : Array Oper} {Q : Exit → Act → World → Prop} {rest : List Oper} {op : Oper} {a : Act} {w w0 : World} {S : List Nat} {L Ls : List (Nat × Ent)}
 {n : Nat} {d : List Deferred} {env : List (Nat × Value)} {fuel : Nat} {listed : Array Bool} {α : Type}
theorem wl_callD (he : EV a n d env) (hm : MM S w0 w L) (key : Nat) {b : Nat} {T : TypeId} {A0 : Array Value} (hl : L.lookup key = some ⟨true, b, T, A0⟩) (hd : op.dst.all (· < n) = true) (hw : Region.wanted op (yielded ops a.tmps) = true) (f : FuncId) (args : Array Value) (hr : (execOp a.eval op).run P w = .ok (.enter f args) w)
 {v : α → Value} {A : α → Array Value} {Φ : α → Prop} (hc : Calls P f args w fun e w' => Draws w b v T A Φ e w')
 (k : ∀ x a' w', Φ x → EV a' n d (putE env op.dst (v x)) → MM S w0 w' ((key, ⟨true, b, T, A x⟩) :: L) → wpList P ops Q rest a' w') : wpList P ops Q (op :: rest) a w := by
 unfold wpList
 rw [if_pos hw]
 refine .inl ?_
 unfold Oper.wp
 rw [hr]
 refine hc.mono ?_
 rintro e w' ⟨x, rfl, hΦ, hk, hx⟩
 exact k x _ _ hΦ (he.putO _ _ hd) (hm.kb1 key b T A0 (A x) hl hk hx)
theorem MM.kbnew {w' : World} (h : MM S w0 w L) (key : Nat) (b : Nat) (T : TypeId) (A A' : Array Value) (hl : L.lookup key = some ⟨true, b, T, A⟩) (k : KB [b] w w') (hx : BX w' b T A') (key2 : Nat) (b2 : Nat) (T2 : TypeId) (A2 : Array Value) (hk2 : L.lookup key2 = none) (hne : key2 ≠ key) (hx2 : BX w' b2 T2 A2) (hs : w.heap.size ≤ b2) :
 MM S w0 w' ((key2, ⟨true, b2, T2, A2⟩) :: (key, ⟨true, b, T, A'⟩) :: L) := by
 have h' := h.kb1 key b T A A' hl k hx
 have hold : ∀ j e, ((key, (⟨true, b, T, A'⟩ : Ent)) :: L).lookup j = some e → e.b < w.heap.size := by
  intro j e hj
  rw [lk] at hj
  split at hj
  ·cases hj; exact (h.has key _ hl).lt
  ·exact (h.has j e hj).lt
 refine ⟨h'.keep, ?_, ?_, ?_⟩
 ·intro j e hj
  rw [lk] at hj
  split at hj
  ·cases hj; exact hx2
  ·exact h'.has j e hj
 ·intro j e hj ho
  rw [lk] at hj
  split at hj
  ·cases hj; exact .inl (Nat.le_trans h.keep.size hs)
  ·exact h'.own j e hj ho
 ·intro j i e f hj hi hne ho
  rw [lk] at hj hi
  split at hj <;> split at hi
  ·rename_i h1 h2; exact absurd (h1.trans h2.symm) hne
  ·cases hj; have := hold i f hi; show b2 ≠ f.b; omega
  ·cases hi; have := hold j e hj; show e.b ≠ b2; omega
  ·exact h'.apart j i e f hj hi hne ho
theorem wl_callDN (he : EV a n d env) (hm : MM S w0 w L) (key : Nat) {b : Nat} {T : TypeId} {A0 : Array Value} (hl : L.lookup key = some ⟨true, b, T, A0⟩) (key2 : Nat) (hk2 : L.lookup key2 = none) (hne : key2 ≠ key) (hd : op.dst.all (· < n) = true) (hw : Region.wanted op (yielded ops a.tmps) = true) (f : FuncId) (args : Array Value) (hr : (execOp a.eval op).run P w = .ok (.enter f args) w)
 {v : α → Nat → Value} {T1 : TypeId} {A1 A : α → Array Value} {Φ : α → Prop} (hc : Calls P f args w fun e w' => DrawsN w b v T1 A1 T A Φ e w')
 (k : ∀ x b2 a' w', Φ x → EV a' n d (putE env op.dst (v x b2)) → MM S w0 w' ((key2, ⟨true, b2, T1, A1 x⟩) :: (key, ⟨true, b, T, A x⟩) :: L) → wpList P ops Q rest a' w') : wpList P ops Q (op :: rest) a w := by
 unfold wpList
 rw [if_pos hw]
 refine .inl ?_
 unfold Oper.wp
 rw [hr]
 refine hc.mono ?_
 rintro e w' ⟨x, b2, rfl, hΦ, hx1, hs, hk, hx⟩
 exact k x b2 _ _ hΦ (he.putO _ _ hd) (hm.kbnew key b T A0 (A x) hl hk hx key2 b2 T1 (A1 x) hk2 hne hx1 hs)
end
section
variable {w0 w : World} {B : Nat} {a : Option Addr} {len cap p : Nat} (h : RS w0 w B a len cap p)
include h
theorem d_pick (hp : p ≤ 1000000) (n : Nat) (n0 : 1 ≤ n) (n1 : n ≤ 2147483647) :
 Calls Try.prog 29 #[.pointer (some ⟨B, 0, none⟩), .int .i64 ((n : Nat) : Int)] w fun e w' => Draws w B (fun x : Nat => .int .i64 ((x : Nat) : Int)) 67 (fun _ => rdA a len cap (p + 1)) (fun x => x < n) e w' := by
 refine (pick_s h hp (n : Int) (by omega) (by omega)).mono ?_
 rintro e w' ⟨m, rfl, hm, h1, h2, h3⟩
 obtain ⟨k1, k2⟩ := h.keep h1 (by omega) (fun k _ hk => h3 k hk)
 exact ⟨m, rfl, by omega, k1, k2⟩
theorem d_one (hp : p ≤ 1000000) (L : Nat) (l : List Int) (cur : Array Value) (hx : BX w L 3 cur) (hl : cur = (l.map fun v => Value.int .i64 v).toArray) (hne : L ≠ B) (m0 : 0 < l.length) (m1 : l.length ≤ 1000) (m : Nat) (hm : m = l.length) :
 Calls Try.prog 28 #[.pointer (some ⟨B, 0, none⟩), .slice (some ⟨L, 0, none⟩) m m] w fun e w' => Draws w B (fun x : Int => .int .i64 x) 67 (fun _ => rdA a len cap (p + 1)) (fun x => x ∈ l) e w' := by
 subst hm hl
 refine (one_s h hp L l.length (fun i => l.getD i 0) hne m0 m1 (fun i hi => by
  rw [hx.cell]; simp [hi, List.getD])).mono ?_
 rintro e w' ⟨i, hi, rfl, h1, h2, h3⟩
 obtain ⟨k1, k2⟩ := h.keep h1 (by omega) (fun k _ hk => h3 k hk)
 exact ⟨l.getD i 0, rfl, by simp [hi], k1, k2⟩
theorem d_number (hp : p ≤ 900000) :
 Calls Try.prog 32 #[.pointer (some ⟨B, 0, none⟩)] w fun e w' => Draws w B (fun x : Nat × Nat => .int .i64 ((x.1 : Nat) : Int)) 67 (fun x => rdA a len cap x.2) (fun x => x.2 ≤ p + 3) e w' := by
 refine (number_k h hp).mono ?_
 rintro e w' ⟨v, q, rfl, hv, hq, hk⟩
 obtain ⟨k1, k2⟩ := hk.keep h
 exact ⟨(v, q), rfl, hq, k1, k2⟩
theorem d_prog (hp : p ≤ 600000) :
 Calls Try.prog 30 #[.pointer (some ⟨B, 0, none⟩)] w fun e w' => Draws w B (fun x : Option Addr × Nat × Nat × Nat => .slice x.1 x.2.1 x.2.2.1) 67 (fun x => rdA a len cap x.2.2.2) (fun x => x.2.2.2 ≤ p + 450) e w' := by
 refine (prog_k h hp).mono ?_
 rintro e w' ⟨⟨xs, x, n, c, rfl, _⟩, q, hq, hk⟩
 obtain ⟨k1, k2⟩ := hk.keep h
 exact ⟨(x, n, c, q), rfl, hq, k1, k2⟩
theorem d_table (hp : p ≤ 800000) :
 Calls Try.prog 55 #[.pointer (some ⟨B, 0, none⟩)] w fun e w' => Draws w B (fun x : (Int × Int × Int) × (Option Addr × Nat × Nat) × (Option Addr × Nat × Nat) × Nat => .agg #[.int .i64 x.1.1, .int .i64 x.1.2.1, .int .i64 x.1.2.2, .slice x.2.1.1 x.2.1.2.1 x.2.1.2.2, .slice x.2.2.1.1 x.2.2.1.2.1 x.2.2.1.2.2]) 67 (fun x => rdA a len cap x.2.2.2) (fun x => x.2.2.2 ≤ p + 40) e w' := by
 refine (G.table_k h hp).mono ?_
 rintro e w' ⟨k, s, r, ks, vs, a1, b1, c1, d1, q, rfl, _, _, _, _, _, _, hq, hk⟩
 obtain ⟨k1, k2⟩ := hk.keep h
 exact ⟨((k, s, r), (a1, ks.length, c1), (b1, vs.length, d1), q), rfl, hq, k1, k2⟩
end
section
variable {P : Program} {ops : Array Oper} {Q : Exit → Act → World → Prop} {a : Act} {w w0 : World} {S : List Nat} {L Ls : List (Nat × Ent)}
 {n : Nat} {d : List Deferred} {env : List (Nat × Value)} {fuel : Nat} {listed : Array Bool} {α : Type}
theorem wh_append {i : Nat} {op : Oper} (hrd : Region.ready .any ops listed = [i]) (hi : ops[i]? = some op) (he : EV a n d env) (hm : MM S w0 w L) (key : Nat) {g : Nat} {e : TypeId} {cur : Array Value} (hlk : L.lookup key = some ⟨true, g, e, cur⟩) (hd : op.dst.all (· < n) = true) (hw : Region.wanted op (yielded ops a.tmps) = true) (s x : Operand) (t : TypeId)
 (ho : op.op = .call { callee := .builtin .append, args := #[s, x], argTypes := #[t, t] }) {z : Value} {size bytes : Nat} (E : ElT P t e z size bytes) {k cap : Nat} (hs : a.eval s = .slice (some ⟨g, 0, none⟩) k cap) {xs : List Value} (hrw : Rw cur k cap size xs)
 (ad : Addr) (m c : Nat) (hx : a.eval x = .slice (some ad) m c) (news : List Value) (hl : news.length = m * size) (hnews : ∀ j u, news[j]? = some u → w.cell? (ad.add j) = some u) (h1 : ∀ u ∈ news, u.oneCell' = true)
 (h63 : k + m ≤ maxLen) (hbytes : (k + m) * bytes ≤ 140737488355328)
 (hSb : ∀ g' cur', SubL ((key, ⟨true, g', e, cur'⟩) :: L) Ls)
 (kk : ∀ a' w' g' cap' cur', EV a' n d (putE env op.dst (.slice (some ⟨g', 0, none⟩) (k + m) cap')) → MM S w0 w' ((key, ⟨true, g', e, cur'⟩) :: L) → Rw cur' (k + m) cap' size (xs ++ news) → wpAnyH P .any ops Q (fun w' => MM S w0 w' Ls) fuel (listed.setIfInBounds i true) a' w') : wpAnyH P .any ops Q (fun w' => MM S w0 w' Ls) (fuel + 1) listed a w := by
 refine wh_one hrd hi hw fun K hK => ?_
 have ex : ∀ v w', (Builtin.append_ #[t, t] op.type #[.slice (some ⟨g, 0, none⟩) k cap, .slice (some ad) m c]).run P w = .ok v w' → (execOp a.eval op).run P w = .ok (.value v) w' := fun v w' hr => by
  unfold execOp
  simp only [ho, resolve, invoke, builtin, Sem.run_bind, Sem.run_pure, Result.andThen_ok, List.map_toArray, List.map_cons, List.map_nil, hs, hx, hr]
 unfold Oper.wp
 rcases run_app (ty := op.type) E g cap k cur xs (hm.has key _ hlk) hrw ad m c news hl hnews h1 h63 hbytes with ⟨cur', hrw', hr⟩ | ⟨cap', cur', hrw', hr⟩
 ·rw [ex _ _ hr]
  have mm := hm.setRow key g e cur hlk cur'
  exact hK _ _ (mm.sub Ls (hSb _ _)) (kk _ _ _ _ _ (he.putO _ _ hd) mm hrw')
 ·rw [ex _ _ hr]
  suffices mm : MM S w0 (w.drew.alloc (.cells cur' e)) ((key, ⟨true, w.heap.size, e, cur'⟩) :: L) from hK _ _ (mm.sub Ls (hSb _ _)) (kk _ _ _ _ _ (he.putO _ _ hd) mm hrw')
  have h0 := hm.drew
  have hs' : w.drew.heap.size = w.heap.size := rfl
  have old : ∀ k, k < w.heap.size → (w.drew.alloc (.cells cur' e)).heap[k]? = w.heap[k]? := fun k hk => Below.heap_alloc w.drew _ _ hk
  refine ⟨⟨h0.keep.os, h0.keep.tape, h0.keep.output, by simp; exact Nat.le_succ_of_le h0.keep.size, fun k hk hS => (old k (Nat.lt_of_lt_of_le hk h0.keep.size)).trans (h0.keep.block k hk hS)⟩, ?_, ?_, ?_⟩
  ·intro k2 e2 hk2
   rw [lk] at hk2
   split at hk2
   ·cases hk2; exact World.alloc_heap_new w.drew _
   ·have := hm.has k2 e2 hk2; exact (old e2.b this.lt).trans this
  ·intro k2 e2 hk2 ho2
   rw [lk] at hk2
   split at hk2
   ·cases hk2; exact .inl hm.keep.size
   ·exact hm.own k2 e2 hk2 ho2
  ·intro j2 k2 e2 f2 hj2 hk2 hne ho2
   rw [lk] at hj2 hk2
   split at hj2 <;> split at hk2
   ·rename_i q1 q2; exact absurd (q1.trans q2.symm) hne
   ·cases hj2; have := (hm.has k2 f2 hk2).lt; simp; omega
   ·cases hk2; have := (hm.has j2 e2 hj2).lt; simp; omega
   ·exact hm.apart j2 k2 e2 f2 hj2 hk2 hne ho2
theorem wh_append0 {i : Nat} {op : Oper} (hrd : Region.ready .any ops listed = [i]) (hi : ops[i]? = some op) (he : EV a n d env) (hm : MM S w0 w L) (key : Nat) (hkey : L.lookup key = none) (hd : op.dst.all (· < n) = true) (hw : Region.wanted op (yielded ops a.tmps) = true) (s x : Operand) (t : TypeId)
 (ho : op.op = .call { callee := .builtin .append, args := #[s, x], argTypes := #[t, t] }) {e : TypeId} {z : Value} {size bytes : Nat} (E : ElT P t e z size bytes) (hs : a.eval s = .slice none 0 0)
 (ad : Addr) (m c : Nat) (hx : a.eval x = .slice (some ad) m c) (hm0 : 0 < m) (news : List Value) (hl : news.length = m * size) (hnews : ∀ j u, news[j]? = some u → w.cell? (ad.add j) = some u)
 (h63 : m ≤ maxLen) (hbytes : m * bytes ≤ 140737488355328)
 (hSb : ∀ g' cur', SubL ((key, ⟨true, g', e, cur'⟩) :: L) Ls)
 (kk : ∀ a' w' g' cap' cur', EV a' n d (putE env op.dst (.slice (some ⟨g', 0, none⟩) m cap')) → MM S w0 w' ((key, ⟨true, g', e, cur'⟩) :: L) → Rw cur' m cap' size news → wpAnyH P .any ops Q (fun w' => MM S w0 w' Ls) fuel (listed.setIfInBounds i true) a' w') : wpAnyH P .any ops Q (fun w' => MM S w0 w' Ls) (fuel + 1) listed a w := by
 refine wh_one hrd hi hw fun K hK => ?_
 unfold Oper.wp
 obtain ⟨cap', cur', hrw', hr⟩ := run_app0 (w := w) (ty := op.type) E ad m c news hm0 hl hnews h63 hbytes
 have ex : (execOp a.eval op).run P w = .ok (.value (.slice (some ⟨w.heap.size, 0, none⟩) m cap')) (w.drew.alloc (.cells cur' e)) := by
  unfold execOp
  simp only [ho, resolve, invoke, builtin, Sem.run_bind, Sem.run_pure, Result.andThen_ok, List.map_toArray, List.map_cons, List.map_nil, hs, hx, hr]
 rw [ex]
 have mm := hm.drew.alloc key e cur' hkey
 exact hK _ _ (mm.sub Ls (hSb _ _)) (kk _ _ _ _ _ (he.putO _ _ hd) mm hrw')
theorem wh_callD {i : Nat} {op : Oper} (hrd : Region.ready .any ops listed = [i]) (hi : ops[i]? = some op) (he : EV a n d env) (hm : MM S w0 w L) (key : Nat) {b : Nat} {T : TypeId} {A0 : Array Value} (hl : L.lookup key = some ⟨true, b, T, A0⟩) (hd : op.dst.all (· < n) = true) (hw : Region.wanted op (yielded ops a.tmps) = true) (f : FuncId) (args : Array Value) (hr : (execOp a.eval op).run P w = .ok (.enter f args) w)
 {v : α → Value} {A : α → Array Value} {Φ : α → Prop} (hc : Calls P f args w fun e w' => Draws w b v T A Φ e w') (hSb : ∀ x, SubL ((key, ⟨true, b, T, A x⟩) :: L) Ls)
 (k : ∀ x a' w', Φ x → EV a' n d (putE env op.dst (v x)) → MM S w0 w' ((key, ⟨true, b, T, A x⟩) :: L) → wpAnyH P .any ops Q (fun w' => MM S w0 w' Ls) fuel (listed.setIfInBounds i true) a' w') : wpAnyH P .any ops Q (fun w' => MM S w0 w' Ls) (fuel + 1) listed a w := by
 refine wh_one hrd hi hw fun K hK => ?_
 unfold Oper.wp
 rw [hr]
 refine hc.mono ?_
 rintro e w' ⟨x, rfl, hΦ, hk, hx⟩
 have mm := hm.kb1 key b T A0 (A x) hl hk hx
 exact hK _ _ (mm.sub Ls (hSb x)) (k x _ _ hΦ (he.putO _ _ hd) mm)
end
section
variable {P : Program} {ops : Array Oper} {Q : Exit → Act → World → Prop} {w w0 : World} {S : List Nat} {L Ls : List (Nat × Ent)} {a : Act}
 {n : Nat} {d : List Deferred} {env : List (Nat × Value)} {fuel : Nat} {listed : Array Bool}
theorem wh_build {i : Nat} {op : Oper} (hr : Region.ready .any ops listed = [i]) (hi : ops[i]? = some op) (he : EV a n d env) (hm : MM S w0 w L) (key : Nat) (hk : L.lookup key = none) (hd : op.dst.all (· < n) = true) (hw : Region.wanted op (yielded ops a.tmps) = true)
 (T : TypeId) (len : Nat) (parts : Array (Nat × Operand)) (ho : op.op = .buildSlice T len parts) (vs : Array (Nat × Value)) (hx : parts.map (fun (i, x) => (i, a.eval x)) = vs) (e : TypeId) (A : Array Value)
 (hrun : ∀ w, (Instr.buildSlice T len vs).run P w = .ok (.slice (some ⟨w.heap.size, 0, none⟩) len len) (w.alloc (.cells A e))) (hS : ∀ b, SubL ((key, ⟨true, b, e, A⟩) :: L) Ls)
 (k : ∀ a' w' b, EV a' n d (putE env op.dst (.slice (some ⟨b, 0, none⟩) len len)) → MM S w0 w' ((key, ⟨true, b, e, A⟩) :: L) → wpAnyH P .any ops Q (fun w' => MM S w0 w' Ls) fuel (listed.setIfInBounds i true) a' w') : wpAnyH P .any ops Q (fun w' => MM S w0 w' Ls) (fuel + 1) listed a w := by
 refine wh_one hr hi hw fun K hK => ?_
 unfold Oper.wp
 have : (execOp a.eval op).run P w = .ok (.value (.slice (some ⟨w.heap.size, 0, none⟩) len len)) (w.alloc (.cells A e)) := by
  unfold execOp
  simp only [ho, hx, Sem.run_bind, hrun]; rfl
 rw [this]
 have hm' := hm.alloc key e A hk
 exact hK _ _ (hm'.sub Ls (hS _)) (k _ _ _ (he.putO _ _ hd) hm')
end
section
variable {P : Program} {ops : Array Oper} {Q : Exit → Act → World → Prop} {op : Oper} {a : Act} {w w0 : World} {S : List Nat} {L Ls : List (Nat × Ent)} {n : Nat} {d : List Deferred} {env : List (Nat × Value)} {fuel : Nat} {listed : Array Bool} {α : Type}
theorem st_callD {i : Nat} (he : EV a n d env) (hm : MM S w0 w L) (key : Nat) {b : Nat} {T : TypeId} {A0 : Array Value} (hl : L.lookup key = some ⟨true, b, T, A0⟩) {v : α → Value} {A : α → Array Value} {Φ : α → Prop} (hSb : ∀ x, SubL ((key, ⟨true, b, T, A x⟩) :: L) Ls) (hd : op.dst.all (· < n) = true) (hw : Region.wanted op (yielded ops a.tmps) = true) (f : FuncId) (args : Array Value) (hrun : (execOp a.eval op).run P w = .ok (.enter f args) w)
 (hc : Calls P f args w fun e w' => Draws w b v T A Φ e w')
 (k : ∀ x a' w', Φ x → EV a' n d (putE env op.dst (v x)) → MM S w0 w' ((key, ⟨true, b, T, A x⟩) :: L) → wpAnyH P .any ops Q (fun w' => MM S w0 w' Ls) fuel (listed.setIfInBounds i true) a' w') :
 ∀ K' : Act → World → Prop, Shut (∀ a w, MM S w0 w Ls → (MM S w0 w Ls → wpAnyH P .any ops Q (fun w' => MM S w0 w' Ls) fuel (listed.setIfInBounds i true) a w) → K' a w) → if Region.wanted op (yielded ops a.tmps) = true then Oper.wp P op a w K' Q else K' (a.put op.dst undef) w := by
 intro K hK
 rw [if_pos hw]
 unfold Oper.wp
 rw [hrun]
 refine hc.mono ?_
 rintro e w' ⟨x, rfl, hΦ, hk, hx⟩
 have mm := hm.kb1 key b T A0 (A x) hl hk hx
 exact hK.out _ _ (mm.sub Ls (hSb x)) fun _ => k x _ _ hΦ (he.putO _ _ hd) mm
theorem st_build {i : Nat} (he : EV a n d env) (hm : MM S w0 w L) (key : Nat) (hk : L.lookup key = none) (hd : op.dst.all (· < n) = true) (hw : Region.wanted op (yielded ops a.tmps) = true)
 (T : TypeId) (len : Nat) (parts : Array (Nat × Operand)) (ho : op.op = .buildSlice T len parts) (vs : Array (Nat × Value)) (hx : parts.map (fun (i, x) => (i, a.eval x)) = vs) (e : TypeId) (A : Array Value)
 (hrun : ∀ w, (Instr.buildSlice T len vs).run P w = .ok (.slice (some ⟨w.heap.size, 0, none⟩) len len) (w.alloc (.cells A e))) (hS : ∀ b, SubL ((key, ⟨true, b, e, A⟩) :: L) Ls)
 (k : ∀ a' w' b, EV a' n d (putE env op.dst (.slice (some ⟨b, 0, none⟩) len len)) → MM S w0 w' ((key, ⟨true, b, e, A⟩) :: L) → wpAnyH P .any ops Q (fun w' => MM S w0 w' Ls) fuel (listed.setIfInBounds i true) a' w') :
 ∀ K' : Act → World → Prop, Shut (∀ a w, MM S w0 w Ls → (MM S w0 w Ls → wpAnyH P .any ops Q (fun w' => MM S w0 w' Ls) fuel (listed.setIfInBounds i true) a w) → K' a w) → if Region.wanted op (yielded ops a.tmps) = true then Oper.wp P op a w K' Q else K' (a.put op.dst undef) w := by
 intro K hK
 rw [if_pos hw]
 unfold Oper.wp
 have : (execOp a.eval op).run P w = .ok (.value (.slice (some ⟨w.heap.size, 0, none⟩) len len)) (w.alloc (.cells A e)) := by
  unfold execOp
  simp only [ho, hx, Sem.run_bind, hrun]; rfl
 rw [this]
 have hm' := hm.alloc key e A hk
 exact hK.out _ _ (hm'.sub Ls (hS _)) fun _ => k _ _ _ (he.putO _ _ hd) hm'
end
theorem rn_slc {P : Program} {op : Oper} {a : Act} {w : World} (T : TypeId) (x hi : Operand) (ho : op.op = .slice T x none (some hi) none) (v vh u : Value) (hx : a.eval x = v) (hh : a.eval hi = vh) (hr : (Instr.sliceAt T v none (some vh) none).run P w = .ok u w) : (execOp a.eval op).run P w = .ok (.value u) w := by
 unfold execOp
 simp only [ho, hx, Option.map_none, Option.map_some, hh, Sem.run_bind, hr]; rfl
theorem Rw.set1 {α : Type} {arr : α → Array Value} {sz : Nat} (h : ∀ x, (arr x).size = sz) {cur : Array Value} {n cap : Nat} {l : List α} (rw : Rw cur n cap sz (cellsOf arr l)) {i f : Nat} {x y : α} {v : Value} (hx : l[i]? = some x) (hf : f < sz) (hy : (arr y) = (arr x).setIfInBounds f v) (o : Nat) (ho : o = i * sz + f) : Rw (ovw cur o [v]) n cap sz (cellsOf arr (l.set i y)) := by
 subst ho
 have hi := (List.getElem?_eq_some_iff.1 hx).1
 have hlen := rw.len
 have hl2 := cellsOf_len h l
 have hlen2 : i * sz + sz ≤ (cellsOf arr l).length := by
  rw [cellsOf_len h, ← Nat.succ_mul]; exact Nat.mul_le_mul_right _ hi
 have hfit := rw.fit'
 have hsz : (ovw cur (i * sz + f) [v]).size = cur.size := by show (cur.setIfInBounds _ _).size = _; simp
 refine ⟨rw.le, rw.max, by rw [hsz]; exact rw.room, ?_⟩
 apply List.ext_getElem?
 intro m
 rw [List.getElem?_take]
 by_cases hm : m < n * sz
 ·rw [if_pos hm, Array.getElem?_toList]
  show (cur.setIfInBounds (i * sz + f) v)[m]? = _
  have hold : ∀ m, m < n * sz → cur[m]? = (cellsOf arr l)[m]? := fun m hm => by
   rw [List.getElem?_eq_getElem (by omega : m < (cellsOf arr l).length)]
   exact rw.get _ _ (List.getElem?_eq_getElem (by omega))
  have hl3 : (l.set i y)[i]? = some y := by rw [List.getElem?_set_self hi]
  by_cases hc : i * sz ≤ m ∧ m < i * sz + sz
  ·have e : m = i * sz + (m - i * sz) := by omega
   have g1 := cellsOf_get h (l.set i y) i (m - i * sz) y hl3 (by omega)
   have g0 := cellsOf_get h l i (m - i * sz) x hx (by omega)
   rw [← e] at g1 g0
   rw [g1, hy]
   by_cases e2 : m = i * sz + f
   ·subst e2
    rw [Array.getElem?_setIfInBounds_self_of_lt (by omega), show i * sz + f - i * sz = f by omega, Array.getElem?_setIfInBounds_self_of_lt (by rw [h]; exact hf)]
   ·rw [Array.getElem?_setIfInBounds_ne (by omega), Array.getElem?_setIfInBounds_ne (by omega), hold m hm, g0]
  ·rw [Array.getElem?_setIfInBounds_ne (by omega), hold m hm]
   by_cases hlt : m < (cellsOf arr l).length
   ·have hj : m / sz < l.length := by rw [cellsOf_len h] at hlt; exact Nat.div_lt_of_lt_mul (by rw [Nat.mul_comm]; exact hlt)
    have hmod : m % sz < sz := Nat.mod_lt _ (by omega)
    have hdm : m / sz * sz + m % sz = m := by rw [Nat.mul_comm]; exact Nat.div_add_mod m sz
    have hne : i ≠ m / sz := by
     intro e
     rw [e] at hc
     omega
    have g0 := cellsOf_get h l (m / sz) (m % sz) _ (List.getElem?_eq_getElem hj) hmod
    have g1 := cellsOf_get h (l.set i y) (m / sz) (m % sz) l[m / sz] (by rw [List.getElem?_set_ne hne, List.getElem?_eq_getElem hj]) hmod
    rw [hdm] at g0 g1
    rw [g0, g1]
   ·rw [List.getElem?_eq_none (by omega), List.getElem?_eq_none (by rw [cellsOf_len h, List.length_set, ← cellsOf_len h]; omega)]
 ·rw [if_neg hm, List.getElem?_eq_none (by rw [cellsOf_len h, List.length_set, ← cellsOf_len h]; omega)]
section
variable {P : Program} {ops : Array Oper} {Q : Exit → Act → World → Prop} {rest : List Oper} {op : Oper} {a : Act} {w w0 : World} {S : List Nat} {L Ls : List (Nat × Ent)}
 {n : Nat} {d : List Deferred} {env : List (Nat × Value)} {fuel : Nat} {listed : Array Bool} {α : Type}
theorem kd (he : EV a n d env) (hm : MM S w0 w L) (key : Nat) {b : Nat} {T : TypeId} {A0 : Array Value} {f : FuncId} {args : Array Value} {v : α → Value} {A : α → Array Value} {Φ : α → Prop} (hc : Calls P f args w fun e w' => Draws w b v T A Φ e w')
 (k : ∀ x a' w', Φ x → EV a' n d (putE env op.dst (v x)) → MM S w0 w' ((key, ⟨true, b, T, A x⟩) :: L) → wpList P ops Q rest a' w')
 (hl : L.lookup key = some ⟨true, b, T, A0⟩ := by rfl) (h : CallIs ops n env op f args := by unfold CallIs; kernel_rfl) (hf : ∀ args w, (callFunc f args).run P w = .ok (.enter f args) w := by intros; kernel_rfl) : wpList P ops Q (op :: rest) a w :=
 wl_callD he hm key hl h.hd (he.want h.hw) f args (he.call h.hc hf w) hc k
theorem kdn (he : EV a n d env) (hm : MM S w0 w L) (key : Nat) {b : Nat} {T : TypeId} {A0 : Array Value} (key2 : Nat) {f : FuncId} {args : Array Value} {v : α → Nat → Value} {T1 : TypeId} {A1 A : α → Array Value} {Φ : α → Prop} (hc : Calls P f args w fun e w' => DrawsN w b v T1 A1 T A Φ e w')
 (k : ∀ x b2 a' w', Φ x → EV a' n d (putE env op.dst (v x b2)) → MM S w0 w' ((key2, ⟨true, b2, T1, A1 x⟩) :: (key, ⟨true, b, T, A x⟩) :: L) → wpList P ops Q rest a' w')
 (hl : L.lookup key = some ⟨true, b, T, A0⟩ := by rfl) (hk2 : L.lookup key2 = none := by rfl) (hne : key2 ≠ key := by decide) (h : CallIs ops n env op f args := by unfold CallIs; kernel_rfl) (hf : ∀ args w, (callFunc f args).run P w = .ok (.enter f args) w := by intros; kernel_rfl) : wpList P ops Q (op :: rest) a w :=
 wl_callDN he hm key hl key2 hk2 hne h.hd (he.want h.hw) f args (he.call h.hc hf w) hc k
theorem td (i : Nat) (hi : ops.toList[i]? = some op) (he : EV a n d env) (hm : MM S w0 w L) (key : Nat) {b : Nat} {T : TypeId} {A0 : Array Value} {f : FuncId} {args : Array Value} {v : α → Value} {A : α → Array Value} {Φ : α → Prop} (hc : Calls P f args w fun e w' => Draws w b v T A Φ e w') (hSb : ∀ x, SubL ((key, ⟨true, b, T, A x⟩) :: L) Ls)
 (k : ∀ x a' w', Φ x → EV a' n d (putE env op.dst (v x)) → MM S w0 w' ((key, ⟨true, b, T, A x⟩) :: L) → wpAnyH P .any ops Q (fun w' => MM S w0 w' Ls) fuel (listed.setIfInBounds i true) a' w')
 (hl : L.lookup key = some ⟨true, b, T, A0⟩ := by rfl) (h : UpIs ops listed i n env op f args := by unfold UpIs; kernel_rfl) (hf : ∀ args w, (callFunc f args).run P w = .ok (.enter f args) w := by intros; kernel_rfl) : wpAnyH P .any ops Q (fun w' => MM S w0 w' Ls) (fuel + 1) listed a w := by
 rw [Array.getElem?_toList] at hi
 exact wh_callD (congrArg (·.1) h) hi he hm key hl (congrArg (·.2.1) h) (he.want (congrArg (·.2.2.1) h)) f args (he.call (congrArg (·.2.2.2) h) hf w) hc hSb k
theorem sd {i : Nat} (he : EV a n d env) (hm : MM S w0 w L) (key : Nat) {b : Nat} {T : TypeId} {A0 : Array Value} {f : FuncId} {args : Array Value} {v : α → Value} {A : α → Array Value} {Φ : α → Prop} (hSb : ∀ x, SubL ((key, ⟨true, b, T, A x⟩) :: L) Ls) (hc : Calls P f args w fun e w' => Draws w b v T A Φ e w')
 (k : ∀ x a' w', Φ x → EV a' n d (putE env op.dst (v x)) → MM S w0 w' ((key, ⟨true, b, T, A x⟩) :: L) → wpAnyH P .any ops Q (fun w' => MM S w0 w' Ls) fuel (listed.setIfInBounds i true) a' w')
 (hl : L.lookup key = some ⟨true, b, T, A0⟩ := by rfl) (h : CallIs ops n env op f args := by unfold CallIs; kernel_rfl) (hf : ∀ args w, (callFunc f args).run P w = .ok (.enter f args) w := by intros; kernel_rfl) :
 ∀ K' : Act → World → Prop, Shut (∀ a w, MM S w0 w Ls → (MM S w0 w Ls → wpAnyH P .any ops Q (fun w' => MM S w0 w' Ls) fuel (listed.setIfInBounds i true) a w) → K' a w) → if Region.wanted op (yielded ops a.tmps) = true then Oper.wp P op a w K' Q else K' (a.put op.dst undef) w :=
 st_callD he hm key hl hSb h.hd (he.want h.hw) f args (he.call h.hc hf w) hc k
theorem tpR (i : Nat) (hi : ops.toList[i]? = some op) (he : EV a n d env) (hm : MM S w0 w L) (key kx : Nat) {t e : TypeId} {z : Value} {size bytes : Nat} (E : ElT P t e z size bytes) {g k cap : Nat} {cur : Array Value} {xs : List Value} (hrw : Rw cur k cap size xs) {o2 : Bool} {b2 m c : Nat} {T2 : TypeId} {cur2 : Array Value} {news : List Value} (hrx : Rw cur2 m c size news) (h1 : ∀ u ∈ news, u.oneCell' = true)
 (hSb : ∀ g' cur', SubL ((key, ⟨true, g', e, cur'⟩) :: L) Ls)
 (kk : ∀ a' w' g' cap' cur', EV a' n d (putE env op.dst (.slice (some ⟨g', 0, none⟩) (k + m) cap')) → MM S w0 w' ((key, ⟨true, g', e, cur'⟩) :: L) → Rw cur' (k + m) cap' size (xs ++ news) → wpAnyH P .any ops Q (fun w' => MM S w0 w' Ls) fuel (listed.setIfInBounds i true) a' w')
 (h63 : k + m ≤ maxLen := by simp only [maxLen]; omega) (hbytes : (k + m) * bytes ≤ 140737488355328 := by omega) (hlk : L.lookup key = some ⟨true, g, e, cur⟩ := by rfl) (hlx : L.lookup kx = some ⟨o2, b2, T2, cur2⟩ := by rfl) (h : (Region.ready .any ops listed, dstE op n, wantE ops env op, appE env op.op) = ([i], true, some true, some (t, .slice (some ⟨g, 0, none⟩) k cap, .slice (some ⟨b2, 0, none⟩) m c)) := by kernel_rfl) : wpAnyH P .any ops Q (fun w' => MM S w0 w' Ls) (fuel + 1) listed a w := by
 rw [Array.getElem?_toList] at hi
 obtain ⟨s, x, ho, hs, hx⟩ := appE_is (congrArg (·.2.2.2) h) he
 exact wh_append (congrArg (·.1) h) hi he hm key hlk (congrArg (·.2.1) h) (he.want (congrArg (·.2.2.1) h)) s x t ho E hs hrw ⟨b2, 0, none⟩ m c hx news hrx.len (fun j u hu => by rw [Addr.add_mid, Nat.zero_add, (hm.bx kx _ _ _ _ hlx).cell]; exact hrx.get j u hu) h1 h63 hbytes hSb kk
theorem tp0R (i : Nat) (hi : ops.toList[i]? = some op) (he : EV a n d env) (hm : MM S w0 w L) (key kx : Nat) {t e : TypeId} {z : Value} {size bytes : Nat} (E : ElT P t e z size bytes) {o2 : Bool} {b2 m c : Nat} {T2 : TypeId} {cur2 : Array Value} {news : List Value} (hrx : Rw cur2 m c size news)
 (hSb : ∀ g' cur', SubL ((key, ⟨true, g', e, cur'⟩) :: L) Ls)
 (kk : ∀ a' w' g' cap' cur', EV a' n d (putE env op.dst (.slice (some ⟨g', 0, none⟩) m cap')) → MM S w0 w' ((key, ⟨true, g', e, cur'⟩) :: L) → Rw cur' m cap' size news → wpAnyH P .any ops Q (fun w' => MM S w0 w' Ls) fuel (listed.setIfInBounds i true) a' w')
 (hm0 : 0 < m := by omega) (h63 : m ≤ maxLen := by simp only [maxLen]; omega) (hbytes : m * bytes ≤ 140737488355328 := by omega) (hkey : L.lookup key = none := by rfl) (hlx : L.lookup kx = some ⟨o2, b2, T2, cur2⟩ := by rfl) (h : (Region.ready .any ops listed, dstE op n, wantE ops env op, appE env op.op) = ([i], true, some true, some (t, .slice none 0 0, .slice (some ⟨b2, 0, none⟩) m c)) := by kernel_rfl) : wpAnyH P .any ops Q (fun w' => MM S w0 w' Ls) (fuel + 1) listed a w := by
 rw [Array.getElem?_toList] at hi
 obtain ⟨s, x, ho, hs, hx⟩ := appE_is (congrArg (·.2.2.2) h) he
 exact wh_append0 (congrArg (·.1) h) hi he hm key hkey (congrArg (·.2.1) h) (he.want (congrArg (·.2.2.1) h)) s x t ho E hs ⟨b2, 0, none⟩ m c hx hm0 news hrx.len (fun j u hu => by rw [Addr.add_mid, Nat.zero_add, (hm.bx kx _ _ _ _ hlx).cell]; exact hrx.get j u hu) h63 hbytes hSb kk
theorem tbb (i : Nat) (hi : ops.toList[i]? = some op) (he : EV a n d env) (hm : MM S w0 w L) (key : Nat) (T : TypeId) (len : Nat) {vs : Array (Nat × Value)} (e : TypeId) (A : Array Value)
 (hrun : ∀ w, (Instr.buildSlice T len vs).run P w = .ok (.slice (some ⟨w.heap.size, 0, none⟩) len len) (w.alloc (.cells A e))) (hS : ∀ b, SubL ((key, ⟨true, b, e, A⟩) :: L) Ls)
 (k : ∀ a' w' b, EV a' n d (putE env op.dst (.slice (some ⟨b, 0, none⟩) len len)) → MM S w0 w' ((key, ⟨true, b, e, A⟩) :: L) → wpAnyH P .any ops Q (fun w' => MM S w0 w' Ls) fuel (listed.setIfInBounds i true) a' w')
 (h : (Region.ready .any ops listed, dstE op n, wantE ops env op, buildE env op.op) = ([i], true, some true, some (T, len, vs)) := by kernel_rfl) (hk : L.lookup key = none := by rfl) : wpAnyH P .any ops Q (fun w' => MM S w0 w' Ls) (fuel + 1) listed a w := by
 rw [Array.getElem?_toList] at hi
 obtain ⟨parts, ho, hx⟩ := buildE_is (congrArg (·.2.2.2) h) he
 exact wh_build (congrArg (·.1) h) hi he hm key hk (congrArg (·.2.1) h) (he.want (congrArg (·.2.2.1) h)) T len parts ho vs hx e A hrun hS k
theorem sb {i : Nat} (he : EV a n d env) (hm : MM S w0 w L) (key : Nat) (T : TypeId) (len : Nat) {vs : Array (Nat × Value)} (e : TypeId) (A : Array Value)
 (hrun : ∀ w, (Instr.buildSlice T len vs).run P w = .ok (.slice (some ⟨w.heap.size, 0, none⟩) len len) (w.alloc (.cells A e))) (hS : ∀ b, SubL ((key, ⟨true, b, e, A⟩) :: L) Ls)
 (k : ∀ a' w' b, EV a' n d (putE env op.dst (.slice (some ⟨b, 0, none⟩) len len)) → MM S w0 w' ((key, ⟨true, b, e, A⟩) :: L) → wpAnyH P .any ops Q (fun w' => MM S w0 w' Ls) fuel (listed.setIfInBounds i true) a' w')
 (h : (dstE op n, wantE ops env op, buildE env op.op) = (true, some true, some (T, len, vs)) := by kernel_rfl) (hk : L.lookup key = none := by rfl) :
 ∀ K' : Act → World → Prop, Shut (∀ a w, MM S w0 w Ls → (MM S w0 w Ls → wpAnyH P .any ops Q (fun w' => MM S w0 w' Ls) fuel (listed.setIfInBounds i true) a w) → K' a w) → if Region.wanted op (yielded ops a.tmps) = true then Oper.wp P op a w K' Q else K' (a.put op.dst undef) w := by
 obtain ⟨parts, ho, hx⟩ := buildE_is (congrArg (·.2.2) h) he
 exact st_build he hm key hk (congrArg (·.1) h) (he.want (congrArg (·.2.1) h)) T len parts ho vs hx e A hrun hS k
end
end Go.Proofs.Ytkaekiodjjhjkaa
