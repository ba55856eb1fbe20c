/- Contracts of the draws: a reader's state; one of a list; a number. -/
import Derived.Test.YtkaekiodjjhjkaaJGrp0
import Derived.RangeFuncRecord
set_option maxRecDepth 100000
set_option maxHeartbeats 2000000
set_option linter.unusedSimpArgs false
set_option linter.unusedVariables false
namespace Go.Proofs.Ytkaekiodjjhjkaa
open Go.RowKit
structure RS (w0 w : World) (B : Nat) (a : Option Addr) (len cap p : Nat) : Prop where
 box : w.heap[B]? = some (.cells #[.slice a len cap, .int .i64 p] 67 (0, 0))
 ge : w0.heap.size ≤ B
 bel : Below w0.heap.size w0 w
 src : len = 0 ∨ ∃ g off, a = some ⟨g, off, none⟩ ∧ g < w0.heap.size ∧ ∀ j, j < len → ∃ v : Nat, v < 256 ∧ w0.cell? ⟨g, off + j, none⟩ = some (.int .u8 v)
 le : len ≤ 2000
section
variable {w0 w w' : World} {B : Nat} {a : Option Addr} {len cap p : Nat}
theorem RS.lt (h : RS w0 w B a len cap p) : B < w.heap.size := (Array.getElem?_eq_some_iff.1 h.box).1
theorem RS.rd (h : RS w0 w B a len cap p) : Rd w B a len cap p :=
 ⟨by simp [World.cell?, h.box], by simp [World.cell?, h.box], by simp [World.frozen?, h.box]⟩
theorem RS.bytes (h : RS w0 w B a len cap p) : Bytes w B a len := by
 rcases h.src with h0 | ⟨g, off, ha, hg, hc⟩
 ·exact .inl h0
 ·refine .inr ⟨g, off, ha, by have := h.ge; omega, fun j hj => ?_⟩
  obtain ⟨v, hv, hcv⟩ := hc j hj
  exact ⟨v, hv, (h.bel.cell (p := ⟨g, off + j, none⟩) hg).trans hcv⟩
theorem RS.below (h : RS w0 w B a len cap p) (hb : Below w.heap.size w w') : RS w0 w' B a len cap p :=
 ⟨(hb.block B h.lt).trans h.box, h.ge, h.bel.trans (hb.mono h.bel.size), h.src, h.le⟩
theorem RS.alloc (h : RS w0 w B a len cap p) (o : Obj) : RS w0 (w.alloc o) B a len cap p := h.below ((Below.refl _ _).alloc (Nat.le_refl _) _)
theorem RS.drewN (h : RS w0 w B a len cap p) (k : Nat) : RS w0 (w.drewN k) B a len cap p := ⟨h.box, h.ge, ⟨h.bel.os, h.bel.tape, h.bel.output, h.bel.size, h.bel.block⟩, h.src, h.le⟩
theorem RS.step (h : RS w0 w B a len cap p) : RS w0 (w.setCell ⟨B, 1, none⟩ (.int .i64 ((p : Int) + 1))) B a len cap (p + 1) := by
 refine ⟨?_, h.ge, h.bel.setCell h.ge _, h.src, h.le⟩
 obtain ⟨hlt, hk⟩ := Array.getElem?_eq_some_iff.1 h.box
 show (w.heap.modify B _)[B]? = _
 rw [Array.getElem?_eq_getElem (by rw [Array.size_modify]; exact hlt), Array.getElem_modify_self, hk]
 rfl
end
theorem pick_s {w0 w : World} {B : Nat} {a : Option Addr} {len cap p : Nat} (h : RS w0 w B a len cap p) (hp : p ≤ 1000000) (n : Int) (n0 : 1 ≤ n) (n1 : n ≤ 2147483647) :
 Calls Try.prog 29 #[.pointer (some ⟨B, 0, none⟩), .int .i64 n] w fun e w' => ∃ m : Nat, e = .returned (.int .i64 m) ∧ (m : Int) < n ∧ RS w0 w' B a len cap (p + 1) ∧ w'.heap.size = w.heap.size ∧ ∀ k, k ≠ B → w'.heap[k]? = w.heap[k]? := by
 refine (pick_c w B cap p len a n h.rd h.bytes hp n0 n1 h.le).mono ?_
 rintro e w' ⟨m, k, rfl, hm, rfl⟩
 refine ⟨m, rfl, by omega, h.step.drewN k, ?_, fun q hq => ?_⟩
 ·show (w.heap.modify B _).size = _
  rw [Array.size_modify]
 ·exact Below.heap_setCell w ⟨B, 1, none⟩ _ q hq
theorem one_s {w0 w : World} {B : Nat} {a : Option Addr} {len cap p : Nat} (h : RS w0 w B a len cap p) (hp : p ≤ 1000000) (L m : Nat) (f : Nat → Int) (hL : L ≠ B) (m0 : 0 < m) (m1 : m ≤ 1000) (hf : ∀ i, i < m → w.cell? ⟨L, i, none⟩ = some (.int .i64 (f i))) :
 Calls Try.prog 28 #[.pointer (some ⟨B, 0, none⟩), .slice (some ⟨L, 0, none⟩) m m] w fun e w' => ∃ i : Nat, i < m ∧ e = .returned (.int .i64 (f i)) ∧ RS w0 w' B a len cap (p + 1) ∧ w'.heap.size = w.heap.size ∧ ∀ k, k ≠ B → w'.heap[k]? = w.heap[k]? := by
 have H := hid h
 have HF := hid hf
 have q0 : (1 : Int) ≤ m := by omega
 have q1 : (m : Int) ≤ 1000 := by omega
 clear h hf
 go_enter Try.func28, Try.ntmps28
 go_wp2_with fail
 refine (pick_s H.out hp m (by omega) (by omega)).mono ?_
 rintro e w1 ⟨i, rfl, hi, h1, h2, h3⟩
 have hi0 : (0 : Int) ≤ i := by omega
 have hin : i < m := by omega
 have hc : w1.cell? ⟨L, i, none⟩ = some (.int .i64 (f i)) := (World.cell?_of_block (w := w) (h3 L hL)).trans (HF.out i hin)
 have H1 := hid h1
 have H2 := hid h2
 have H3 := hid h3
 clear h1 h2 h3
 go_wp2_with fail
 go_ret
 exact ⟨i, hin, rfl, H1.out, H2.out, H3.out⟩
end Go.Proofs.Ytkaekiodjjhjkaa
namespace Go.Proofs.Ytkaekiodjjhjkaa
open Go.RowKit
theorem fresh_ints (w : World) (l : List Int) (t : TypeId) (i : Nat) (hi : i < l.length) :
 (w.alloc (.cells (l.map fun v => Value.int .i64 v).toArray t (0, 0))).cell? ⟨w.heap.size, i, none⟩ = some (.int .i64 (l.getD i 0)) := by
 have hb : (w.alloc (.cells (l.map fun v => Value.int .i64 v).toArray t (0, 0))).heap[w.heap.size]? = some (.cells (l.map fun v => Value.int .i64 v).toArray t (0, 0)) := by
  show (w.heap.push _)[w.heap.size]? = _
  simp
 simp only [World.cell?, hb]
 simp [hi]
end Go.Proofs.Ytkaekiodjjhjkaa
namespace Go.Proofs.Ytkaekiodjjhjkaa
open Go.RowKit
def Src (w : World) (a : Option Addr) (len : Nat) : Prop :=
 len = 0 ∨ ∃ g off, a = some ⟨g, off, none⟩ ∧ g < w.heap.size ∧ ∀ j, j < len → ∃ v : Nat, v < 256 ∧ w.cell? ⟨g, off + j, none⟩ = some (.int .u8 v)
theorem RS.new (w : World) (a : Option Addr) (len cap n : Nat) (hs : Src w a len) (hn : n ≤ len) (h2 : n ≤ 2000) :
 RS w (w.alloc (.cells #[.slice a n cap, .int .i64 0] 67 (0, 0))) w.heap.size a n cap 0 := by
 refine ⟨?_, Nat.le_refl _, (Below.refl _ _).alloc (Nat.le_refl _) _, ?_, h2⟩
 ·show (w.heap.push _)[w.heap.size]? = _
  simp
 ·rcases hs with h0 | ⟨g, off, ha, hg, hc⟩
  ·exact .inl (by omega)
  ·exact .inr ⟨g, off, ha, hg, fun j hj => hc j (by omega)⟩
theorem open_s (w : World) (a : Option Addr) (len cap : Nat) (hc : len ≤ cap) (hs : Src w a len) (hl : cap < 2 ^ 63) :
 Calls Try.prog 14 #[.slice a len cap] w fun e w' => ∃ (n : Nat), e = .returned (.pointer (some ⟨w.heap.size, 0, none⟩)) ∧ RS w w' w.heap.size a n cap 0 := by
 have HS := hid hs
 clear hs
 go_enter Try.func14, Try.ntmps14
 go_wp2_with fail
 ·go_ret
  exact ⟨2000, rfl, RS.new w a len cap 2000 HS.out (by omega) (by omega)⟩
 ·go_ret
  exact ⟨len, rfl, RS.new w a len cap len HS.out (by omega) (by omega)⟩
end Go.Proofs.Ytkaekiodjjhjkaa
namespace Go.Proofs.Ytkaekiodjjhjkaa
open Go.RowKit
def Kept (B : Nat) (w w' : World) : Prop := w.heap.size ≤ w'.heap.size ∧ ∀ k, k < w.heap.size → k ≠ B → w'.heap[k]? = w.heap[k]?
structure K3 (w0 w w' : World) (B : Nat) (a : Option Addr) (len cap p : Nat) : Prop where
 rs : RS w0 w' B a len cap p
 kp : Kept B w w'
 lt : B < w.heap.size
 le : w0.heap.size ≤ w.heap.size
section
variable {w0 w w' w'' : World} {B : Nat} {a : Option Addr} {len cap p q : Nat}
theorem K3.start (h : RS w0 w B a len cap p) : K3 w0 w w B a len cap p := ⟨h, ⟨Nat.le_refl _, fun _ _ _ => rfl⟩, h.lt, h.bel.size⟩
theorem K3.draw (h : K3 w0 w w' B a len cap p) (h2 : K3 w0 w' w'' B a len cap q) : K3 w0 w w'' B a len cap q :=
 ⟨h2.rs, ⟨Nat.le_trans h.kp.1 h2.kp.1, fun k hk hB => (h2.kp.2 k (Nat.lt_of_lt_of_le hk h.kp.1) hB).trans (h.kp.2 k hk hB)⟩, h.lt, h.le⟩
theorem K3.below (h : K3 w0 w w' B a len cap p) (hb : Below w'.heap.size w' w'') : K3 w0 w w'' B a len cap p :=
 ⟨h.rs.below hb, ⟨Nat.le_trans h.kp.1 hb.size, fun k hk hB => (hb.block k (Nat.lt_of_lt_of_le hk h.kp.1)).trans (h.kp.2 k hk hB)⟩, h.lt, h.le⟩
theorem K3.alloc (h : K3 w0 w w' B a len cap p) (o : Obj) : K3 w0 w (w'.alloc o) B a len cap p := h.below ((Below.refl _ _).alloc (Nat.le_refl _) _)
theorem K3.drew (h : K3 w0 w w' B a len cap p) : K3 w0 w w'.drew B a len cap p := h.below (Below.refl _ _).drew
theorem K3.set (h : K3 w0 w w' B a len cap p) (ad : Addr) (v : Value) (hk : w.heap.size ≤ ad.block) : K3 w0 w (w'.setCell ad v) B a len cap p := by
 have hlt := h.lt
 have hle := h.le
 refine ⟨⟨?_, h.rs.ge, h.rs.bel.setCell (by omega) v, h.rs.src, h.rs.le⟩, ⟨?_, fun k hk2 hB => ?_⟩, h.lt, h.le⟩
 ·exact (Below.heap_setCell w' ad v B (by omega)).trans h.rs.box
 ·have : (w'.setCell ad v).heap.size = w'.heap.size := by
   show (w'.heap.modify _ _).size = _
   rw [Array.size_modify]
  rw [this]; exact h.kp.1
 ·exact (Below.heap_setCell w' ad v k (by omega)).trans (h.kp.2 k hk2 hB)
theorem RS.k3 (h : RS w0 w B a len cap p) (h1 : RS w0 w' B a len cap q) (hs : w.heap.size ≤ w'.heap.size) (hb : ∀ k, k < w.heap.size → k ≠ B → w'.heap[k]? = w.heap[k]?) : K3 w0 w w' B a len cap q :=
 ⟨h1, ⟨hs, hb⟩, h.lt, h.bel.size⟩
end
theorem pick_k {w0 w : World} {B : Nat} {a : Option Addr} {len cap p : Nat} (h : RS w0 w B a len cap p) (hp : p ≤ 1000000) (n : Int) (n0 : 1 ≤ n) (n1 : n ≤ 2147483647) :
 Calls Try.prog 29 #[.pointer (some ⟨B, 0, none⟩), .int .i64 n] w fun e w' => ∃ m : Nat, e = .returned (.int .i64 m) ∧ (m : Int) < n ∧ K3 w0 w w' B a len cap (p + 1) := by
 refine (pick_s h hp n n0 n1).mono ?_
 rintro e w' ⟨m, rfl, hm, h1, h2, h3⟩
 exact ⟨m, rfl, hm, h.k3 h1 (by omega) (fun k _ hk => h3 k hk)⟩
theorem one_k {w0 w : World} {B : Nat} {a : Option Addr} {len cap p : Nat} (h : RS w0 w B a len cap p) (hp : p ≤ 1000000) (l : List Int) (t : TypeId) (m0 : 0 < l.length) (m1 : l.length ≤ 1000) :
 Calls Try.prog 28 #[.pointer (some ⟨B, 0, none⟩), .slice (some ⟨w.heap.size, 0, none⟩) l.length l.length] (w.alloc (.cells (l.map fun v => Value.int .i64 v).toArray t (0, 0)))
  fun e w' => ∃ v : Int, v ∈ l ∧ e = .returned (.int .i64 v) ∧ K3 w0 w w' B a len cap (p + 1) := by
 refine (one_s (h.alloc _) hp w.heap.size l.length (fun i => l.getD i 0) (by have := h.lt; omega) m0 m1 (fun i hi => fresh_ints w l t i hi)).mono ?_
 rintro e w' ⟨i, hi, rfl, h1, h2, h3⟩
 refine ⟨l.getD i 0, by simp [hi], rfl, h.k3 h1 ?_ (fun k hk hB => (h3 k hB).trans (Below.heap_alloc w _ k hk))⟩
 rw [h2]; simp
theorem imm_k {w0 w : World} {B : Nat} {a : Option Addr} {len cap p : Nat} (h : RS w0 w B a len cap p) (hp : p ≤ 1000000) :
 Calls Try.prog 53 #[.pointer (some ⟨B, 0, none⟩)] w fun e w' => ∃ v : Nat, e = .returned (.int .i64 v) ∧ v ≤ 4294967295 ∧ K3 w0 w w' B a len cap (p + 1) := by
 have H := hid h
 clear h
 go_enter Try.func53, Try.ntmps53
 go_wp2_with fail
 refine (one_k H.out hp [0, 1, 2, 3, 7, 8, 15, 31, 100, 255, 65535, 2147483647, 2147483648, 4294967295] 3 (by decide) (by decide)).mono ?_
 rintro e w1 ⟨v, hv, rfl, h1⟩
 have hv2 : 0 ≤ v ∧ v ≤ 4294967295 := by
  simp only [List.mem_cons, List.not_mem_nil, or_false] at hv
  omega
 have H1 := hid h1
 clear h1 hv
 go_wp2_with fail
 go_ret
 exact ⟨v.toNat, ret_int (by omega), by omega, H1.out⟩
theorem number_k {w0 w : World} {B : Nat} {a : Option Addr} {len cap p : Nat} (h : RS w0 w B a len cap p) (hp : p ≤ 900000) :
 Calls Try.prog 32 #[.pointer (some ⟨B, 0, none⟩)] w fun e w' => ∃ (v q : Nat), e = .returned (.int .i64 v) ∧ v ≤ 4294967295 ∧ q ≤ p + 3 ∧ K3 w0 w w' B a len cap q := by
 have H := hid h
 clear h
 go_enter Try.func32, Try.ntmps32
 go_wp2_with fail
 refine (pick_k H.out (by omega) 3 (by omega) (by omega)).mono ?_
 rintro e w1 ⟨m, rfl, hm, h1⟩
 have H1 := hid h1
 clear h1
 go_wp2_with fail
 ·refine (imm_k H1.out.rs (by omega)).mono ?_
  rintro e w2 ⟨v, rfl, v1, h2⟩
  have H2 := hid (H1.out.draw h2)
  clear h2
  go_wp2_with fail
  go_ret
  exact ⟨v, p + 1 + 1, rfl, v1, by omega, H2.out⟩
 ·refine (pick_k H1.out.rs (by omega) 256 (by omega) (by omega)).mono ?_
  rintro e w2 ⟨k, rfl, hk, h2⟩
  have H2 := hid (H1.out.draw h2)
  clear h2
  go_wp2_with fail
  go_ret
  exact ⟨k, p + 1 + 1, rfl, by omega, by omega, H2.out⟩
 ·refine (pick_k H1.out.rs (by omega) 256 (by omega) (by omega)).mono ?_
  rintro e w2 ⟨k, rfl, hk, h2⟩
  have H2 := hid (H1.out.draw h2)
  clear h2
  go_wp2_with fail
  refine (one_k H2.out.rs (by omega) [0, 4, 8, 16, 24] 3 (by decide) (by decide)).mono ?_
  rintro e w3 ⟨s, hs, rfl, h3⟩
  have H3 := hid (H2.out.draw h3)
  clear h3
  have hk0 : (0 : Int) ≤ k := by omega
  simp only [List.mem_cons, List.not_mem_nil, or_false] at hs
  rcases hs with rfl | rfl | rfl | rfl | rfl
  all_goals go_wp2_with fail
  all_goals go_ret
  ·exact ⟨k, p + 1 + 1 + 1, ret_int (by omega), by omega, by omega, H3.out⟩
  ·exact ⟨k * 16, p + 1 + 1 + 1, ret_int (by omega), by omega, by omega, H3.out⟩
  ·exact ⟨k * 256, p + 1 + 1 + 1, ret_int (by omega), by omega, by omega, H3.out⟩
  ·exact ⟨k * 65536, p + 1 + 1 + 1, ret_int (by omega), by omega, by omega, H3.out⟩
  ·exact ⟨k * 16777216, p + 1 + 1 + 1, ret_int (by omega), by omega, by omega, H3.out⟩
end Go.Proofs.Ytkaekiodjjhjkaa
