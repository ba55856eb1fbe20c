/- The iterator once more, for a body that writes below the list: what lies from lo to hi is kept. -/
import Derived.RangeFuncNested
import Derived.RangeFuncBound
import Derived.RangeFuncCalls
import Derived.RangeFuncLeaves
import Derived.RangeFuncBox
import Derived.Shelf.Abstract
import Derived.WalkKit
import Derived.OwnWalkIn
import Derived.TacticsInMore
import Derived.LoopNIn
import Derived.LoopIn
import Derived.Test.YtahbicegmioplaaTI
namespace Go.Proofs.Ytahbicegmioplaa
open Go.RowKit Go.Shelf
set_option linter.unusedSimpArgs false
attribute [local go_sem] Oper.semAt_some

/-- What lies from lo to hi is kept. -/
structure Win (lo hi : Nat) (W W' : World) : Prop where
  size : W.heap.size ≤ W'.heap.size
  block : ∀ b, lo ≤ b → b < hi → W'.heap[b]? = W.heap[b]?
theorem Win.refl (lo hi : Nat) (W : World) : Win lo hi W W := ⟨Nat.le_refl _, fun _ _ _ => rfl⟩
theorem Win.trans {lo hi : Nat} {A B C : World} (h : Win lo hi A B) (k : Win lo hi B C) : Win lo hi A C := ⟨Nat.le_trans h.size k.size, fun b h1 h2 => (k.block b h1 h2).trans (h.block b h1 h2)⟩
theorem Win.of {lo hi n : Nat} {W W' : World} (h : Below n W W') (hn : hi ≤ n) : Win lo hi W W' := ⟨h.size, fun b _ h2 => h.block b (by omega)⟩
theorem Win.alloc {lo hi : Nat} {A W : World} (h : Win lo hi A W) (hw : hi ≤ W.heap.size) (X : Obj) : Win lo hi A (W.alloc X) := h.trans (Win.of ((Below.refl _ _).alloc (Nat.le_refl _) _) hw)
theorem Win.setCell {lo hi : Nat} {A W : World} (h : Win lo hi A W) {p : Addr} (hp : p.block < lo) (u : Value) : Win lo hi A (W.setCell p u) := h.trans ⟨by simp [World.setCell], fun k h1 h2 => Below.heap_setCell _ _ _ _ (by omega)⟩
theorem Win.cell {lo hi : Nat} {W W' : World} (h : Win lo hi W W') {p : Addr} (h1 : lo ≤ p.block) (h2 : p.block < hi) : W'.cell? p = W.cell? p := World.cell?_of_block (w := W) (h.block p.block h1 h2)
theorem winK_b {lo hi : Nat} {w : World} (hn : hi ≤ w.heap.size) (W : World) (l : Nat) (o o' : Obj) (hl : w.heap.size ≤ l) (h : W.heap[l]? = some o) (h1 : o.isCells = false) (h2 : o.isWalk = false) : Win lo hi W (W.putObj l o') := Win.of (belowK_b hn W l o o' hl h h1 h2) (Nat.le_refl _)
/-- A value of the type pairs, whose row lies from lo to hi. -/
def ArgW (lo hi : Nat) (w : World) (a : Option Addr) (ps : List Pr) : Prop := ps = [] ∨ ∃ b p, a = some ⟨b, p, none⟩ ∧ lo ≤ b ∧ b < hi ∧ PairRow w b p ps
theorem ArgW.below {lo hi : Nat} {w w' : World} {a : Option Addr} {ps : List Pr} (h : ArgW lo hi w a ps) (hb : Win lo hi w w') : ArgW lo hi w' a ps := by
  rcases h with h | ⟨b, p, rfl, h1, hlt, hr⟩
  · exact .inl h
  · exact .inr ⟨b, p, rfl, h1, hlt, fun k hk => ⟨(hb.cell h1 hlt).trans (hr k hk).1, (hb.cell h1 hlt).trans (hr k hk).2⟩⟩

set_option maxRecDepth 100000 in
set_option maxHeartbeats 2000000 in
/-- The iterator's closure: for every loop body that keeps what lies from lo to hi. -/
theorem all1W (F : Fence) (n : Nat) (h60 : F.fn 76) (hro : F.round = none) (hn : 1 ≤ n) (l Bs lo hi B0 : Nat) (a : Option Addr) (cap : Nat) (ps : List Pr) (hlen : ps.length ≤ 1048576) (J Jx : List Pr → World → Prop) (hJ : AbidesFrom B0 J)
    (hY : ∀ pre x W, J pre W → pre.length < ps.length → YieldAt F (n - 1) Try.prog l #[.int .i64 x.1, .string x.2] W fun e W' =>
      (e = .returned (.bool true) ∧ J (pre ++ [x]) W' ∧ Win lo hi W W') ∨ (e = .returned (.bool false) ∧ Jx (pre ++ [x]) W'))
    (W : World) (hn0 : hi ≤ W.heap.size) (hBs : W.cell? ⟨Bs, 0, none⟩ = some (.slice a ps.length cap)) (hP : ArgW lo hi W a ps) (h0 : J [] W) :
    CallsIn F n Try.prog 76 #[.func (.yield l) #[] #[], .pointer (some ⟨Bs, 0, none⟩)] W fun e W' => (∃ v, e = .returned v) ∧
      ((∃ ys, ys = ps ∧ J ys W') ∨ (∃ pre, (∃ k, k ≤ ps.length ∧ pre = ps.take k) ∧ Jx pre W')) := by
  refine callsIn_of_wp Try.func76 rfl h60 ?_ hro
  simp only [Try.ntmps76, List.size_toArray, List.length_cons, List.length_nil, Nat.reduceAdd, Nat.reduceSub, Array.replicate_succ, Array.replicate_zero, List.push_toArray, List.append_toArray, List.nil_append, List.cons_append]
  gi_wp2
  gi_loopw [7] (fun i wr => ∃ k : Nat, k ≤ ps.length ∧ i = .int .i64 k ∧ J (ps.take k) wr ∧ Win lo hi W wr)
    (fun i _ => ps.length - (intOf i).toNat)
  case atStart => exact ⟨0, Nat.zero_le _, rfl, h0, Win.refl _ _ _⟩
  case round =>
    obtain ⟨k, hk, rfl, hJs, hnx⟩ := hrel
    by_cases hlt : k < ps.length
    · have hlt' : (k : Int) < (ps.length : Int) := by omega
      rcases hP.below hnx with rfl | ⟨b, p, rfl, hb0, hb, hr⟩
      · simp at hlt
      obtain ⟨x, hx⟩ : ∃ x, x = ps[k] := ⟨_, rfl⟩
      obtain ⟨c0, c1⟩ := hr k hlt
      rw [← hx] at c0 c1
      have hnext := take_next ps k hlt
      rw [← hx] at hnext
      have HN : Hid _ := hnext
      obtain ⟨pre, hpre⟩ : ∃ pre, pre = ps.take k := ⟨_, rfl⟩
      have hprel : pre.length < ps.length := by rw [hpre]; simp; omega
      rw [← hpre] at hJs
      have HP : Hid _ := hpre
      clear hx hnext hpre
      have hJ2 : J pre (wr.alloc (.cells #[.int .i64 x.1, .string x.2] 82)) := hJ _ _ _ none hJs (World.grownBy_alloc _ _ _) (by intro r e; cases e)
      obtain ⟨fn, tmps, assign, body, hy, hR⟩ := hY _ x _ hJ2 hprel
      gi_wp2
      refine hR.mono ?_
      rintro e W3 (⟨rfl, hJ3, hk3⟩ | ⟨rfl, hJx3⟩)
      · gi_wp2
        go_roundw
        case rel => exact ⟨k + 1, by omega, by simp, by rw [HN.out, ← HP.out]; exact hJ3, (hnx.alloc (by have := hnx.size; omega) _).trans hk3⟩
        case measure => simp [intOf]; omega
      · gi_wp2
        refine bodyPost_ret (results_none rfl _ _ _) rfl ?_
        exact ⟨⟨_, rfl⟩, .inr ⟨_, ⟨k + 1, by omega, by rw [HN.out, ← HP.out]⟩, hJx3⟩⟩
    · obtain rfl : k = ps.length := by omega
      gi_wp2
      go_end0
      exact ⟨⟨_, rfl⟩, .inl ⟨_, rfl, by rw [List.take_length] at hJs; exact hJs⟩⟩

theorem all_stopsW (F : Fence) (n : Nat) (h60 : F.fn 76) (hro : F.round = none) (hn : 1 ≤ n) (Bs lo hi : Nat) (a : Option Addr) (cap : Nat) (ps : List Pr) (hlen : ps.length ≤ 1048576) (w : World) (hBs : Bs < w.heap.size) (hn₀ : hi ≤ w.heap.size)
    (hc : w.cell? ⟨Bs, 0, none⟩ = some (.slice a ps.length cap)) (hI : ArgW lo hi w a ps) :
    SeqStopsK F n Try.prog 76 #[.pointer (some ⟨Bs, 0, none⟩)] (fun x : Pr => #[Value.int .i64 x.1, Value.string x.2]) (Win lo hi) (fun ys => ys = ps)
      (fun pre => ∃ k, k ≤ ps.length ∧ pre = ps.take k) ps.length w := fun l J Jx W hW hJ _ hY h0 => by
  have hc' := (hW.cell (p := ⟨Bs, 0, none⟩) hBs).trans hc
  exact all1W F n h60 hro hn l Bs lo hi W.heap.size a cap ps hlen J Jx hJ hY W (by have := hW.size; omega) hc' (hI.below ((Win.of hW hn₀))) h0

end Go.Proofs.Ytahbicegmioplaa
