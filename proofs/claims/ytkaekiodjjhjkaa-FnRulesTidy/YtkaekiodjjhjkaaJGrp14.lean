/- TableLook: the leaves. -/
import Derived.Test.YtkaekiodjjhjkaaJGrp13
import Derived.Deep.RegionHeld3
import Derived.RangeFuncNested
import Derived.RangeFuncBound
import Derived.RangeFuncCalls
import Derived.RangeFuncLeaves
import Derived.RangeFuncBox
import Derived.Shelf.Abstract
import Derived.WalkKit
import Derived.OwnWalkIn
import Derived.TacticsInMore
import Derived.LoopNIn
import Derived.LoopIn
set_option maxRecDepth 100000
set_option maxHeartbeats 2000000
set_option linter.unusedSimpArgs false
set_option linter.unusedVariables false
namespace Go.Proofs.Ytkaekiodjjhjkaa.G
open Go.RowKit
open Classical in
noncomputable def okB (k s r : Int) (ks : List Int) (vs : List ByteArray) : Bool := decide (OkP k s r ks vs)
theorem okB_true {k s r : Int} {ks : List Int} {vs : List ByteArray} : okB k s r ks vs = true ↔ OkP k s r ks vs := by simp [okB]
theorem Ans.okB {e : Ending} {k s r : Int} {ks : List Int} {vs : List ByteArray} (h : Ans e (OkP k s r ks vs)) : e = .returned (.bool (okB k s r ks vs)) := by
 obtain ⟨q, rfl, hq⟩ := h
 exact ret_bool (by rw [Bool.eq_iff_iff, hq, okB_true])
theorem f28b (k s r : Int) (ks : List Int) (vs : List ByteArray) (a b : Option Addr) (c d : Nat) (w : World) (hA : ArgI w a ks) (hB : ArgS w b vs) :
 Calls Try.prog 85 #[.agg #[.int .i64 k, .int .i64 s, .int .i64 r, .slice a ks.length c, .slice b vs.length d]] w fun e w' => e = .returned (.bool (okB k s r ks vs)) ∧ Below w.heap.size w w' :=
 (f28 k s r ks vs a b c d w hA hB).mono fun _ _ h => ⟨Ans.okB h.1, h.2⟩
def atI (ks : List Int) (key : Int) : Int := match ks.findIdx? (fun x => x == key) with
 | some i => i
 | none => -1
theorem atI_none {ks : List Int} {key : Int} (h : ∀ j (h : j < ks.length), (ks[j] == key) = false) : atI ks key = -1 := by
 unfold atI
 rw [List.findIdx?_eq_none_iff.2 (by intro x hx; obtain ⟨j, hj, rfl⟩ := List.getElem_of_mem hx; exact h j hj)]
theorem atI_some {ks : List Int} {key : Int} {i : Nat} (hi : i < ks.length) (he : (ks[i] == key) = true) (h : ∀ j (h : j < ks.length), j < i → (ks[j] == key) = false) : atI ks key = i := by
 unfold atI
 rw [List.findIdx?_eq_some_iff_getElem.2 ⟨hi, he, fun j hj => by rw [h j (by omega) hj]; simp⟩]
theorem atI_cases (ks : List Int) (key : Int) : (atI ks key = -1 ∧ ∀ j (h : j < ks.length), (ks[j] == key) = false) ∨ ∃ i, ∃ h : i < ks.length, atI ks key = i ∧ (ks[i] == key) = true ∧ ∀ j (h : j < ks.length), j < i → (ks[j] == key) = false := by
 by_cases hall : ∀ j (h : j < ks.length), (ks[j] == key) = false
 ·exact .inl ⟨atI_none hall, hall⟩
 ·right
  cases hf : ks.findIdx? (fun x => x == key) with
  | none =>
    rw [List.findIdx?_eq_none_iff] at hf
    exact absurd (fun j hj => hf _ (List.getElem_mem hj)) hall
  | some i =>
    obtain ⟨hi, he, hn⟩ := List.findIdx?_eq_some_iff_getElem.1 hf
    exact ⟨i, hi, by unfold atI; rw [hf], he, fun j hj hji => by have := hn j hji; simpa using this⟩
theorem f45 (k s r : Int) (ks : List Int) (vs : List ByteArray) (a b : Option Addr) (c d : Nat) (key : Int) (w : World) (hA : ArgI w a ks) (hn : ks.length ≤ 1048576) :
 Calls Try.prog 102 #[.agg #[.int .i64 k, .int .i64 s, .int .i64 r, .slice a ks.length c, .slice b vs.length d], .int .i64 key] w fun e w' => e = .returned (.int .i64 (atI ks key)) ∧ Below w.heap.size w w' := by
 have hcA : ∀ X, Below w.heap.size w (w.alloc X) := fun X => (Below.refl _ _).alloc (Nat.le_refl _) _
 go_enter Try.func102, Try.ntmps102
 go_wp2_with fail
 go_loop [5] (fun i => ∃ n : Nat, n ≤ ks.length ∧ i = .int .i64 n ∧ ∀ j (h : j < ks.length), j < n → (ks[j] == key) = false) (fun i => ks.length - (intOf i).toNat)
 case atStart => exact ⟨0, Nat.zero_le _, rfl, fun _ _ h => absurd h (by omega)⟩
 case round =>
  obtain ⟨n, hn, rfl, hd⟩ := hrel
  have HD : Hid (∀ j (h : j < ks.length), j < n → (ks[j] == key) = false) := hd
  clear hd
  by_cases hlt : n < ks.length
  ·have hlt' : (n : Int) < (ks.length : Int) := by omega
   obtain ⟨b2, p2, rfl, hb2, hval⟩ := hA.at n hlt
   obtain ⟨x, hx⟩ : ∃ x, x = ks[n] := ⟨_, rfl⟩
   rw [← hx] at hval
   have HX : Hid _ := hx
   clear hx
   cases hxe : (x == key)
   ·go_wp2_with fail
    go_round
    case rel =>
     refine ⟨n + 1, by omega, by go_num, fun j h hj => ?_⟩
     by_cases e : j = n
     ·subst e; rw [← HX.out]; exact hxe
     ·exact HD.out j h (by omega)
    case measure => simp [intOf]; omega
   ·go_wp2_with fail
    go_ret
    exact ⟨ret_i64 (atI_some hlt (by rw [← HX.out]; exact hxe) HD.out).symm, hcA _⟩
  ·obtain rfl : n = ks.length := by omega
   go_wp2_with fail
   go_ret
   exact ⟨ret_i64 (atI_none fun j h => HD.out j h h).symm, hcA _⟩
theorem own_below {w w' : World} {base e size : Nat} {v : Value} {n : Nat} {cs : List Value} (h : w.ownsRow base e size v n cs) (hb : Below w.heap.size w w') : w'.ownsRow base e size v n cs :=
 h.kept (row := none) ⟨hb.os, hb.tape, hb.output, hb.size, fun k hk _ => hb.block k hk⟩ (by cases v.ownBlock <;> simp)
theorem own_base {w : World} {base e size : Nat} {v : Value} {n : Nat} {cs : List Value} (h : w.ownsRow base e size v n cs) : ∀ k, v.ownBlock = some k → base ≤ k := by
 intro k hk
 rcases h.2 with ⟨rfl, _⟩ | ⟨g, cap, cur, rfl, hb, _⟩
 ·simp [Value.ownBlock] at hk
 ·simp [Value.ownBlock] at hk; omega
theorem own_mono {w : World} {base base' e size : Nat} {v : Value} {n : Nat} {cs : List Value} (h : w.ownsRow base e size v n cs) (hb : base' ≤ base) : w.ownsRow base' e size v n cs := by
 refine ⟨h.1, h.2.imp id ?_⟩
 rintro ⟨g, cap, cur, h1, h2, h3⟩
 exact ⟨g, cap, cur, h1, by omega, h3⟩
end Go.Proofs.Ytkaekiodjjhjkaa.G
namespace Go.Proofs.Ytkaekiodjjhjkaa.G
open Go.RowKit Go.Shelf
attribute [local go_sem] Oper.semAt_some
end Go.Proofs.Ytkaekiodjjhjkaa.G
namespace Go.Proofs.Ytkaekiodjjhjkaa.G
open Go.RowKit Go.Shelf
attribute [local go_sem] Oper.semAt_some
def putO (ps : List Pr) (key : Int) (val : ByteArray) : List Pr := ps.map fun x => if x.1 == key then (x.1, val) else (x.1, x.2)
def anyK (ps : List Pr) (key : Int) : Bool := ps.any fun x => x.1 == key
def putP (ps : List Pr) (key : Int) (val : ByteArray) : List Pr := if anyK ps key = true then putO ps key val else putO ps key val ++ [(key, val)]
end Go.Proofs.Ytkaekiodjjhjkaa.G
namespace Go.Proofs.Ytkaekiodjjhjkaa.G
open Go.RowKit Go.Shelf
attribute [local go_sem] Oper.semAt_some
def Box5 (W : World) (B : Nat) (k s r : Int) (v u : Value) : Prop := W.heap[B]? = some (.cells #[.int .i64 k, .int .i64 s, .int .i64 r, v, u] 89 (0, 0))
section
variable {W W' : World} {B : Nat} {k s r : Int} {v u : Value}
theorem Box5.lt (h : Box5 W B k s r v u) : B < W.heap.size := (Array.getElem?_eq_some_iff.1 h).1
theorem Box5.cells (h : Box5 W B k s r v u) : W.cell? ⟨B, 0, none⟩ = some (.int .i64 k) ∧ W.cell? ⟨B, 1, none⟩ = some (.int .i64 s) ∧ W.cell? ⟨B, 2, none⟩ = some (.int .i64 r) ∧ W.cell? ⟨B, 3, none⟩ = some v ∧ W.cell? ⟨B, 4, none⟩ = some u := by simp [World.cell?, show W.heap[B]? = _ from h]
theorem Box5.frozen (h : Box5 W B k s r v u) (j : Nat) : W.frozen? ⟨B, j, none⟩ = false := by simp [World.frozen?, show W.heap[B]? = _ from h]
theorem Box5.kept {row : Option Nat} (h : Box5 W B k s r v u) (hg : W.grownBy W' row) (hne : some B ≠ row) : Box5 W' B k s r v u := (hg.block B (Box5.lt h) hne).trans h
theorem Box5.set3 (v' : Value) (h : Box5 W B k s r v u) : Box5 (W.setCell ⟨B, 3, none⟩ v') B k s r v' u := by
 obtain ⟨hlt, hk⟩ := Array.getElem?_eq_some_iff.1 h
 show (W.heap.modify B _)[B]? = _
 rw [Array.getElem?_eq_getElem (by rw [Array.size_modify]; exact hlt), Array.getElem_modify_self, hk]
 rfl
theorem Box5.set4 (v' : Value) (h : Box5 W B k s r v u) : Box5 (W.setCell ⟨B, 4, none⟩ v') B k s r v v' := by
 obtain ⟨hlt, hk⟩ := Array.getElem?_eq_some_iff.1 h
 show (W.heap.modify B _)[B]? = _
 rw [Array.getElem?_eq_getElem (by rw [Array.size_modify]; exact hlt), Array.getElem_modify_self, hk]
 rfl
theorem Box5.set0 (x : Int) (h : Box5 W B k s r v u) : Box5 (W.setCell ⟨B, 0, none⟩ (.int .i64 x)) B x s r v u := by
 obtain ⟨hlt, hk⟩ := Array.getElem?_eq_some_iff.1 h
 show (W.heap.modify B _)[B]? = _
 rw [Array.getElem?_eq_getElem (by rw [Array.size_modify]; exact hlt), Array.getElem_modify_self, hk]
 rfl
theorem Box5.set1 (x : Int) (h : Box5 W B k s r v u) : Box5 (W.setCell ⟨B, 1, none⟩ (.int .i64 x)) B k x r v u := by
 obtain ⟨hlt, hk⟩ := Array.getElem?_eq_some_iff.1 h
 show (W.heap.modify B _)[B]? = _
 rw [Array.getElem?_eq_getElem (by rw [Array.size_modify]; exact hlt), Array.getElem_modify_self, hk]
 rfl
theorem Box5.set2 (x : Int) (h : Box5 W B k s r v u) : Box5 (W.setCell ⟨B, 2, none⟩ (.int .i64 x)) B k s x v u := by
 obtain ⟨hlt, hk⟩ := Array.getElem?_eq_some_iff.1 h
 show (W.heap.modify B _)[B]? = _
 rw [Array.getElem?_eq_getElem (by rw [Array.size_modify]; exact hlt), Array.getElem_modify_self, hk]
 rfl
theorem Box5.not_row (h : Box5 W B k s r v u) {e : TypeId} (hte : (89 : TypeId) ≠ e) {base size n : Nat} {x : Value} {xs : List Value} (hr : W.ownsRow base e size x n xs) : some B ≠ x.ownBlock := by
 rcases hr.2 with ⟨rfl, _⟩ | ⟨g, cap, cur, rfl, _, hgb, _⟩
 ·simp [Value.ownBlock]
 ·intro e'
  obtain rfl : B = g := by simpa [Value.ownBlock] using e'
  have := (show W.heap[B]? = _ from h).symm.trans hgb
  simp at this
  exact hte this.2
end
theorem grownBy_setCell5 (W : World) (b j : Nat) (v : Value) : W.grownBy (W.setCell ⟨b, j, none⟩ v) (some b) :=
 ⟨rfl, rfl, rfl, (KeepsWalks.setCell W _ v).size, fun k _ hk => Below.heap_setCell _ _ _ k (fun e => hk (by rw [e]))⟩
def st5 (W : World) (B : Nat) (k s r : Int) (v u : Value) : World := ((((W.setCell ⟨B, 0, none⟩ (.int .i64 k)).setCell ⟨B, 1, none⟩ (.int .i64 s)).setCell ⟨B, 2, none⟩ (.int .i64 r)).setCell ⟨B, 3, none⟩ v).setCell ⟨B, 4, none⟩ u
theorem Box5.st5 {W : World} {B : Nat} {k s r k' s' r' : Int} {v u v' u' : Value} (h : Box5 W B k s r v u) : Box5 (st5 W B k' s' r' v' u') B k' s' r' v' u' := Box5.set4 _ (Box5.set3 _ (Box5.set2 _ (Box5.set1 _ (Box5.set0 _ h))))
theorem st5_below {W₀ W : World} {n₀ : Nat} (B : Nat) (k s r : Int) (v u : Value) (h : Below n₀ W₀ W) (hB : n₀ ≤ B) : Below n₀ W₀ (st5 W B k s r v u) := ((((h.setCell hB _).setCell hB _).setCell hB _).setCell hB _).setCell hB _
theorem grown2 {a b c : World} {row : Option Nat} (h : a.grownBy b row) (k : b.grownBy c row) : a.grownBy c row := ⟨k.os.trans h.os, k.tape.trans h.tape, k.output.trans h.output, Nat.le_trans h.size k.size, fun q hq hne => (k.block q (Nat.lt_of_lt_of_le hq h.size) hne).trans (h.block q hq hne)⟩
theorem st5_grown (W : World) (B : Nat) (k s r : Int) (v u : Value) : W.grownBy (st5 W B k s r v u) (some B) :=
 grown2 (grown2 (grown2 (grown2 (grownBy_setCell5 _ _ _ _) (grownBy_setCell5 _ _ _ _)) (grownBy_setCell5 _ _ _ _)) (grownBy_setCell5 _ _ _ _)) (grownBy_setCell5 _ _ _ _)
theorem row_st5 {W : World} {B : Nat} {k s r k' s' r' : Int} {v u v' u' : Value} (h : Box5 W B k s r v u) {e : TypeId} (hte : (89 : TypeId) ≠ e) {base size n : Nat} {x : Value} {xs : List Value} (hr : W.ownsRow base e size x n xs) : (Go.Proofs.Ytkaekiodjjhjkaa.G.st5 W B k' s' r' v' u').ownsRow base e size x n xs :=
 hr.kept (st5_grown _ _ _ _ _ _ _) (.inr (Box5.not_row h hte hr).symm)
theorem rows_apart {W : World} {n₀ n₁ : Nat} {e e' : TypeId} {s s' n m : Nat} {v u : Value} {xs ys : List Value} (h : W.ownsRow n₀ e s v n xs) (h' : W.ownsRow n₁ e' s' u m ys) (hne : e ≠ e') : v.ownBlock = none ∨ v.ownBlock ≠ u.ownBlock := by
 rcases h.2 with ⟨rfl, _⟩ | ⟨g, cap, cur, rfl, _, hgb, _⟩
 ·exact .inl rfl
 ·right
  intro e1
  rcases h'.2 with ⟨rfl, _⟩ | ⟨g', cap', cur', rfl, _, hgb', _⟩
  ·simp [Value.ownBlock] at e1
  ·obtain rfl : g = g' := by simpa [Value.ownBlock] using e1
   have := hgb.symm.trans hgb'
   simp at this
   exact hne this.2
theorem Box5.app3 {W w1 : World} {n₀ B : Nat} {k s r : Int} {v v' u : Value} {n m q : Nat} {xs ys zs : List Value} {tmp : Obj}
 (hv : Box5 W B k s r v u) (hrow : W.ownsRow n₀ 3 1 v n xs) (hrow2 : W.ownsRow n₀ 9 1 u m ys) (hn₀ : n₀ ≤ W.heap.size) (hB : n₀ ≤ B)
 (hown' : w1.ownsRow n₀ 3 1 v' q zs) (hgrow : (W.alloc tmp).grownBy w1 v.ownBlock) :
 Box5 w1 B k s r v u ∧ Box5 (w1.setCell ⟨B, 3, none⟩ v') B k s r v' u ∧ (w1.setCell ⟨B, 3, none⟩ v').ownsRow n₀ 3 1 v' q zs ∧ (w1.setCell ⟨B, 3, none⟩ v').ownsRow n₀ 9 1 u m ys ∧ KeepsOthers W (w1.setCell ⟨B, 3, none⟩ v') ∧ Below n₀ W (w1.setCell ⟨B, 3, none⟩ v') := by
 have hv1 : Box5 w1 B k s r v u := Box5.kept (Box5.kept hv (World.grownBy_alloc W tmp none) (by simp)) hgrow (Box5.not_row hv (by decide) hrow)
 have hr1 : w1.ownsRow n₀ 9 1 u m ys := (World.ownsRow.alloc hrow2 tmp).kept hgrow (rows_apart hrow2 hrow (by decide))
 refine ⟨hv1, Box5.set3 v' hv1, hown'.kept (grownBy_setCell5 w1 B 3 v') (.inr (Box5.not_row hv1 (by decide) hown').symm), hr1.kept (grownBy_setCell5 w1 B 3 v') (.inr (Box5.not_row hv1 (by decide) hr1).symm), ?_, ?_⟩
 ·refine ((KeepsOthers.alloc W tmp).trans (KeepsOthers.of_grownBy hgrow fun j o ej hj => ?_)).trans (KeepsOthers.setCell _ _ _)
  rcases (hrow.alloc tmp).2 with ⟨rfl, _⟩ | ⟨g, cap, cur, rfl, _, hgb, _⟩
  ·simp [Value.ownBlock] at ej
  ·obtain rfl : g = j := by simpa [Value.ownBlock] using ej
   rw [hgb] at hj; cases hj; rfl
 ·exact (((Below.refl n₀ W).alloc hn₀ tmp).grown hgrow (by simp; omega) (own_base hrow)).setCell (p := ⟨B, 3, none⟩) hB v'
theorem Box5.app4 {W w1 : World} {n₀ B : Nat} {k s r : Int} {v v' u : Value} {n m q : Nat} {xs ys zs : List Value} {tmp : Obj}
 (hv : Box5 W B k s r u v) (hrow : W.ownsRow n₀ 9 1 v n xs) (hrow2 : W.ownsRow n₀ 3 1 u m ys) (hn₀ : n₀ ≤ W.heap.size) (hB : n₀ ≤ B)
 (hown' : w1.ownsRow n₀ 9 1 v' q zs) (hgrow : (W.alloc tmp).grownBy w1 v.ownBlock) :
 Box5 w1 B k s r u v ∧ Box5 (w1.setCell ⟨B, 4, none⟩ v') B k s r u v' ∧ (w1.setCell ⟨B, 4, none⟩ v').ownsRow n₀ 9 1 v' q zs ∧ (w1.setCell ⟨B, 4, none⟩ v').ownsRow n₀ 3 1 u m ys ∧ KeepsOthers W (w1.setCell ⟨B, 4, none⟩ v') ∧ Below n₀ W (w1.setCell ⟨B, 4, none⟩ v') := by
 have hv1 : Box5 w1 B k s r u v := Box5.kept (Box5.kept hv (World.grownBy_alloc W tmp none) (by simp)) hgrow (Box5.not_row hv (by decide) hrow)
 have hr1 : w1.ownsRow n₀ 3 1 u m ys := (World.ownsRow.alloc hrow2 tmp).kept hgrow (rows_apart hrow2 hrow (by decide))
 refine ⟨hv1, Box5.set4 v' hv1, hown'.kept (grownBy_setCell5 w1 B 4 v') (.inr (Box5.not_row hv1 (by decide) hown').symm), hr1.kept (grownBy_setCell5 w1 B 4 v') (.inr (Box5.not_row hv1 (by decide) hr1).symm), ?_, ?_⟩
 ·refine ((KeepsOthers.alloc W tmp).trans (KeepsOthers.of_grownBy hgrow fun j o ej hj => ?_)).trans (KeepsOthers.setCell _ _ _)
  rcases (hrow.alloc tmp).2 with ⟨rfl, _⟩ | ⟨g, cap, cur, rfl, _, hgb, _⟩
  ·simp [Value.ownBlock] at ej
  ·obtain rfl : g = j := by simpa [Value.ownBlock] using ej
   rw [hgb] at hj; cases hj; rfl
 ·exact (((Below.refl n₀ W).alloc hn₀ tmp).grown hgrow (by simp; omega) (own_base hrow)).setCell (p := ⟨B, 4, none⟩) hB v'
theorem one_newE (W : World) (B : Nat) (t : TypeId) (x : Value) (hB : B = W.heap.size) : ∀ j u, [x][j]? = some u → (W.alloc (.cells #[x] t)).cell? ((⟨B, 0, none⟩ : Addr).add j) = some u := by
 subst hB
 intro j u hj
 have hl : j < 1 := (List.getElem?_eq_some_iff.1 hj).1
 obtain rfl : j = 0 := by omega
 simp at hj
 subst hj
 rw [Addr.add_lit, Nat.zero_add]
 exact (Boxed.new W t x).cell
theorem own_slice {W : World} {n₀ e s n : Nat} {v : Value} {xs : List Value} (h : W.ownsRow n₀ e s v n xs) : ∃ a cap, v = .slice a n cap := by
 rcases h.2 with ⟨rfl, rfl⟩ | ⟨g, cap, cur, rfl, _⟩
 ·exact ⟨none, 0, rfl⟩
 ·exact ⟨_, cap, rfl⟩
end Go.Proofs.Ytkaekiodjjhjkaa.G
namespace Go.Proofs.Ytkaekiodjjhjkaa.G
open Go.RowKit
end Go.Proofs.Ytkaekiodjjhjkaa.G
namespace Go.Proofs.Ytkaekiodjjhjkaa.G
open Go.RowKit
end Go.Proofs.Ytkaekiodjjhjkaa.G
namespace Go.Proofs.Ytkaekiodjjhjkaa.G
open Go.RowKit Go.Shelf
attribute [local go_sem] Oper.semAt_some
end Go.Proofs.Ytkaekiodjjhjkaa.G
