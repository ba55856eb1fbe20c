/- Contracts: RangeLeast and RangeSome of both. -/
import Derived.Test.YtcopcajleonndaaQRF
namespace Go.Proofs.Ytcopcajleonndaa
open Go.RowKit
set_option linter.unusedVariables false
set_option linter.unusedSimpArgs false

def leastR (lo hi b o : Nat) : Int := if someN lo hi b o then nextN lo b o else -1
theorem next_ge (lo b o : Nat) : -1 ≤ nextN lo b o := upTo_ge
theorem next_top {lo b o : Nat} (hl : lo ≤ 4294967295) (hb : b ≤ 4294967295) : nextN lo b o ≤ 4294967295 := upTo_top hl hb (Nat.le_refl _)
theorem least_gt {lo hi b o : Nat} (h : (hi : Int) < nextN lo b o) : leastR lo hi b o = -1 := by
  rw [leastR, if_neg]; simp [someN]; omega
theorem least_le {lo hi b o : Nat} (h : nextN lo b o ≤ hi) : leastR lo hi b o = nextN lo b o := by
  rw [leastR]
  by_cases g : 0 ≤ nextN lo b o
  · rw [if_pos]; simp [someN]; omega
  · have := next_ge lo b o
    rw [if_neg]
    · omega
    · simp [someN]; omega
theorem least_some (lo hi b o : Nat) : (leastR lo hi b o != -1) = someN lo hi b o := by
  rw [leastR]
  by_cases g : someN lo hi b o = true
  · rw [if_pos g, g]
    simp [someN] at g
    simp; omega
  · rw [if_neg g]
    simp at g; rw [g]; rfl

set_option maxRecDepth 100000 in
set_option maxHeartbeats 1000000 in
theorem c_RangeLeast_bad (lo hi b o : Int) (w : World) (h : okB lo hi b o = false) :
    Calls Try.prog 63 #[rv lo hi b o] w fun e w' => e = .returned (.int .i64 (-1)) ∧ Below w.heap.size w w' := by
  go_enter Try.func63, Try.ntmps63
  go_wp2_with fail
  refine (c_RangeOk lo hi b o _).mono ?_
  rintro e w1 ⟨rfl, hb1⟩
  rw [h]
  go_wp2_with fail
  go_ret
  exact ⟨rfl, ((Below.refl _ _).alloc (Nat.le_refl _) _).trans (hb1.mono (by simp))⟩

set_option maxRecDepth 100000 in
set_option maxHeartbeats 1000000 in
theorem c_RangeLeast (lo hi b o : Nat) (w : World) (h : OkN lo hi b o) :
    Calls Try.prog 63 #[rv lo hi b o] w fun e w' => e = .returned (.int .i64 (leastR lo hi b o)) ∧ Below w.heap.size w w' := by
  have Hok : Hid _ := okB_of h
  have Hn : Hid _ := h
  have g1 := next_ge lo b o
  have g2 := next_top (o := o) h.lo h.b
  have Hg : Hid _ := @least_gt lo hi b o
  have Hl : Hid _ := @least_le lo hi b o
  clear h
  go_enter Try.func63, Try.ntmps63
  go_wp2_with fail
  refine (c_RangeOk _ _ _ _ _).mono ?_
  rintro e w1 ⟨rfl, hb1⟩
  rw [Hok.out]
  have hx1 := (Box4.new w lo hi b o 54).below hb1 (by simp)
  have hz1 : w.heap.size < w1.heap.size := by have := hb1.size; simp at this; omega
  have hbel1 : Below w.heap.size w w1 := ((Below.refl _ _).alloc (Nat.le_refl _) _).trans (hb1.mono (by simp))
  have c0 := hx1.c0; have c1 := hx1.c1; have c2 := hx1.c2; have c3 := hx1.c3
  clear hb1
  go_wp2_with fail
  refine (c_leastFromMin lo b o hi _ Hn.out.lo Hn.out.b Hn.out.o Hn.out.d).mono ?_
  rintro e w2 ⟨rfl, hb2⟩
  have hx2 := hx1.below hb2 hz1
  have hbel2 : Below w.heap.size w w2 := hbel1.trans (hb2.mono (by omega))
  clear c0 c1 c2 c3
  have c1 := hx2.c1
  by_cases g : (hi : Int) < nextN lo b o
  · go_wp2_with fail
    go_ret
    exact ⟨ret_int (Hg.out g).symm, hbel2⟩
  · go_wp2_with fail
    go_ret
    exact ⟨ret_int (Hl.out (by omega)).symm, hbel2⟩

set_option maxRecDepth 100000 in
set_option maxHeartbeats 1000000 in
theorem c_RangeSome_bad (lo hi b o : Int) (w : World) (h : okB lo hi b o = false) :
    Calls Try.prog 53 #[rv lo hi b o] w fun e w' => e = .returned (.bool false) ∧ Below w.heap.size w w' := by
  go_enter Try.func53, Try.ntmps53
  go_wp2_with fail
  refine (c_RangeLeast_bad lo hi b o _ h).mono ?_
  rintro e w1 ⟨rfl, hb1⟩
  go_wp2_with fail
  go_ret
  exact ⟨rfl, ((Below.refl _ _).alloc (Nat.le_refl _) _).trans (hb1.mono (by simp))⟩

set_option maxRecDepth 100000 in
set_option maxHeartbeats 1000000 in
theorem c_RangeSome (lo hi b o : Nat) (w : World) (h : OkN lo hi b o) :
    Calls Try.prog 53 #[rv lo hi b o] w fun e w' => e = .returned (.bool (someN lo hi b o)) ∧ Below w.heap.size w w' := by
  have Hs : Hid _ := least_some lo hi b o
  go_enter Try.func53, Try.ntmps53
  go_wp2_with fail
  refine (c_RangeLeast lo hi b o _ h).mono ?_
  rintro e w1 ⟨rfl, hb1⟩
  generalize leastR lo hi b o = L at *
  go_wp2_with fail
  go_ret
  exact ⟨ret_bool Hs.out, ((Below.refl _ _).alloc (Nat.le_refl _) _).trans (hb1.mono (by simp))⟩

set_option maxRecDepth 100000 in
set_option maxHeartbeats 1000000 in
theorem c_l2Some (lo hi b o : Nat) (w : World) (h : OkN lo hi b o) :
    Calls Try.prog 73 #[rv lo hi b o] w fun e w' => e = .returned (.bool (someN lo hi b o)) ∧ Below w.heap.size w w' := by
  have Hn : Hid _ := h
  have Hs : Hid (someN lo hi b o = (decide (0 ≤ nextN lo b o) && decide (nextN lo b o ≤ hi))) := rfl
  clear h
  go_enter Try.func73, Try.ntmps73
  go_wp2_with fail
  refine (c_l2Next _ _ b o lo _ Hn.out.b Hn.out.o Hn.out.lo Hn.out.d).mono ?_
  rintro e w1 ⟨rfl, hb1⟩
  have hx1 := (Box4.new w lo hi b o 54).below hb1 (by simp)
  have hbel1 : Below w.heap.size w w1 := ((Below.refl _ _).alloc (Nat.le_refl _) _).trans (hb1.mono (by simp))
  have c1 := hx1.c1
  generalize nextN lo b o = L at *
  go_wp2
  all_goals (go_ret; refine ⟨ret_bool ?_, hbel1⟩; rw [Hs.out]; first | (simp_all; done) | (simp_all; omega) | (rw [Bool.eq_iff_iff]; simp; omega))
end Go.Proofs.Ytcopcajleonndaa
