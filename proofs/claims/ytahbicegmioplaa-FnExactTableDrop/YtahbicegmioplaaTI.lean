/- The list of pairs, as it lies in memory, and its iterator. -/
import Derived.RangeFuncNested
import Derived.RangeFuncBound
import Derived.RangeFuncCalls
import Derived.RangeFuncLeaves
import Derived.RangeFuncBox
import Derived.Shelf.Abstract
import Derived.WalkKit
import Derived.OwnWalkIn
import Derived.TacticsInMore
import Derived.LoopNIn
import Derived.LoopIn
import Derived.Test.YtahbicegmioplaaTE
namespace Go.Proofs.Ytahbicegmioplaa
open Go.RowKit Go.Shelf
set_option linter.unusedSimpArgs false
attribute [local go_sem] Oper.semAt_some

abbrev Pr := Int × ByteArray
def PairAt (w : World) (b p : Nat) (x : Pr) : Prop := w.cell? ⟨b, p, none⟩ = some (.int .i64 x.1) ∧ w.cell? ⟨b, p + 1, none⟩ = some (.string x.2)
def PairRow (w : World) (b p : Nat) (ps : List Pr) : Prop := ∀ k (h : k < ps.length), PairAt w b (p + k * 2) ps[k]
/-- A value of the type pairs, below block n₀. -/
def ArgP (n₀ : Nat) (w : World) (a : Option Addr) (ps : List Pr) : Prop := ps = [] ∨ ∃ b p, a = some ⟨b, p, none⟩ ∧ b < n₀ ∧ PairRow w b p ps
theorem ArgP.below {n₀ : Nat} {w w' : World} {a : Option Addr} {ps : List Pr} (h : ArgP n₀ w a ps) (hb : Below n₀ w w') : ArgP n₀ w' a ps := by
  rcases h with h | ⟨b, p, rfl, hlt, hr⟩
  · exact .inl h
  · exact .inr ⟨b, p, rfl, hlt, fun k hk => ⟨(hb.cell hlt).trans (hr k hk).1, (hb.cell hlt).trans (hr k hk).2⟩⟩
theorem take_next (ps : List Pr) (k : Nat) (h : k < ps.length) : ps.take (k + 1) = ps.take k ++ [ps[k]] := List.take_succ_eq_append_getElem h

set_option maxRecDepth 100000 in
set_option maxHeartbeats 2000000 in
/-- The iterator's closure: for every loop body that keeps what lay below n₀. -/
theorem all1 (F : Fence) (n : Nat) (h60 : F.fn 76) (hro : F.round = none) (hn : 1 ≤ n) (l Bs n₀ B0 : Nat) (a : Option Addr) (cap : Nat) (ps : List Pr) (hlen : ps.length ≤ 1048576) (J Jx : List Pr → World → Prop) (hJ : AbidesFrom B0 J)
    (hY : ∀ pre x W, J pre W → pre.length < ps.length → YieldAt F (n - 1) Try.prog l #[.int .i64 x.1, .string x.2] W fun e W' =>
      (e = .returned (.bool true) ∧ J (pre ++ [x]) W' ∧ Below n₀ W W') ∨ (e = .returned (.bool false) ∧ Jx (pre ++ [x]) W'))
    (W : World) (hn0 : n₀ ≤ W.heap.size) (hBs : W.cell? ⟨Bs, 0, none⟩ = some (.slice a ps.length cap)) (hP : ArgP n₀ W a ps) (h0 : J [] W) :
    CallsIn F n Try.prog 76 #[.func (.yield l) #[] #[], .pointer (some ⟨Bs, 0, none⟩)] W fun e W' => (∃ v, e = .returned v) ∧
      ((∃ ys, ys = ps ∧ J ys W') ∨ (∃ pre, (∃ k, k ≤ ps.length ∧ pre = ps.take k) ∧ Jx pre W')) := by
  refine callsIn_of_wp Try.func76 rfl h60 ?_ hro
  simp only [Try.ntmps76, List.size_toArray, List.length_cons, List.length_nil, Nat.reduceAdd, Nat.reduceSub, Array.replicate_succ, Array.replicate_zero, List.push_toArray, List.append_toArray, List.nil_append, List.cons_append]
  gi_wp2
  gi_loopw [7] (fun i wr => ∃ k : Nat, k ≤ ps.length ∧ i = .int .i64 k ∧ J (ps.take k) wr ∧ Below n₀ W wr)
    (fun i _ => ps.length - (intOf i).toNat)
  case atStart => exact ⟨0, Nat.zero_le _, rfl, h0, Below.refl _ _⟩
  case round =>
    obtain ⟨k, hk, rfl, hJs, hnx⟩ := hrel
    by_cases hlt : k < ps.length
    · have hlt' : (k : Int) < (ps.length : Int) := by omega
      rcases hP.below hnx with rfl | ⟨b, p, rfl, hb, hr⟩
      · simp at hlt
      obtain ⟨x, hx⟩ : ∃ x, x = ps[k] := ⟨_, rfl⟩
      obtain ⟨c0, c1⟩ := hr k hlt
      rw [← hx] at c0 c1
      have hnext := take_next ps k hlt
      rw [← hx] at hnext
      have HN : Hid _ := hnext
      obtain ⟨pre, hpre⟩ : ∃ pre, pre = ps.take k := ⟨_, rfl⟩
      have hprel : pre.length < ps.length := by rw [hpre]; simp; omega
      rw [← hpre] at hJs
      have HP : Hid _ := hpre
      clear hx hnext hpre
      have hJ2 : J pre (wr.alloc (.cells #[.int .i64 x.1, .string x.2] 82)) := hJ _ _ _ none hJs (World.grownBy_alloc _ _ _) (by intro r e; cases e)
      obtain ⟨fn, tmps, assign, body, hy, hR⟩ := hY _ x _ hJ2 hprel
      gi_wp2
      refine hR.mono ?_
      rintro e W3 (⟨rfl, hJ3, hk3⟩ | ⟨rfl, hJx3⟩)
      · gi_wp2
        go_roundw
        case rel => exact ⟨k + 1, by omega, by simp, by rw [HN.out, ← HP.out]; exact hJ3, (hnx.alloc (by have := hnx.size; omega) _).trans hk3⟩
        case measure => simp [intOf]; omega
      · gi_wp2
        refine bodyPost_ret (results_none rfl _ _ _) rfl ?_
        exact ⟨⟨_, rfl⟩, .inr ⟨_, ⟨k + 1, by omega, by rw [HN.out, ← HP.out]⟩, hJx3⟩⟩
    · obtain rfl : k = ps.length := by omega
      gi_wp2
      go_end0
      exact ⟨⟨_, rfl⟩, .inl ⟨_, rfl, by rw [List.take_length] at hJs; exact hJs⟩⟩

set_option maxHeartbeats 1000000 in
theorem all_in (F : Fence) (n : Nat) (h54 : F.fn 59) (hro : F.round = none) (a : Option Addr) (len cap : Nat) (w : World) :
    CallsIn F n Try.prog 59 #[.slice a len cap] w fun e w' => e = .returned (.func (.func 76) #[] #[.pointer (some ⟨w.heap.size, 0, none⟩)]) ∧ w' = w.alloc (.cells #[.slice a len cap] 55) := by
  refine callsIn_of_wp Try.func59 rfl h54 ?_ hro
  simp only [Try.ntmps59, List.size_toArray, List.length_cons, List.length_nil, Nat.reduceAdd, Nat.reduceSub, Array.replicate_succ, Array.replicate_zero, List.push_toArray, List.append_toArray, List.nil_append, List.cons_append]
  gi_wp2
  go_ret
  exact ⟨rfl, rfl⟩

theorem all_stops (F : Fence) (n : Nat) (h60 : F.fn 76) (hro : F.round = none) (hn : 1 ≤ n) (Bs n₀ : Nat) (a : Option Addr) (cap : Nat) (ps : List Pr) (hlen : ps.length ≤ 1048576) (w : World) (hBs : Bs < w.heap.size) (hn₀ : n₀ ≤ w.heap.size)
    (hc : w.cell? ⟨Bs, 0, none⟩ = some (.slice a ps.length cap)) (hI : ArgP n₀ w a ps) :
    SeqStopsK F n Try.prog 76 #[.pointer (some ⟨Bs, 0, none⟩)] (fun x : Pr => #[Value.int .i64 x.1, Value.string x.2]) (Below n₀) (fun ys => ys = ps)
      (fun pre => ∃ k, k ≤ ps.length ∧ pre = ps.take k) ps.length w := fun l J Jx W hW hJ _ hY h0 => by
  have hc' := (hW.cell (p := ⟨Bs, 0, none⟩) hBs).trans hc
  exact all1 F n h60 hro hn l Bs n₀ W.heap.size a cap ps hlen J Jx hJ hY W (by have := hW.size; omega) hc' (hI.below (hW.mono hn₀)) h0

end Go.Proofs.Ytahbicegmioplaa
