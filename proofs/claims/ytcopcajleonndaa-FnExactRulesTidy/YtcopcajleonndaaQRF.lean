/- Contracts: the program's search of the least number; RangeLeast and RangeSome of both. -/
import Derived.Test.YtcopcajleonndaaQRE
namespace Go.Proofs.Ytcopcajleonndaa
open Go.RowKit
set_option linter.unusedVariables false
set_option linter.unusedSimpArgs false

theorem Box4.below {k : Nat} {lo hi b o : Int} {w1 w2 : World} (h : Box4 k lo hi b o w1) (hb : Below w1.heap.size w1 w2) (hk : k < w1.heap.size) : Box4 k lo hi b o w2 :=
  ⟨(hb.cell (p := ⟨k, 0, none⟩) hk).trans h.c0, (hb.cell (p := ⟨k, 1, none⟩) hk).trans h.c1, (hb.cell (p := ⟨k, 2, none⟩) hk).trans h.c2, (hb.cell (p := ⟨k, 3, none⟩) hk).trans h.c3⟩

theorem and_pow (n j : Nat) : n &&& 2 ^ j = if n.testBit j then 2 ^ j else 0 := by
  apply Nat.eq_of_testBit_eq
  intro i
  rw [Nat.testBit_and, pow_bit]
  by_cases h : j = i
  · subst h; cases hb : n.testBit j <;> simp [pow_bit]
  · cases hb : n.testBit j <;> simp [pow_bit, h]

/-- What a round of the program's search leaves. -/
def Round2 (lo b o : Nat) (hi : Int) (w : World) (t : Value) (wr : World) : Prop :=
  ∃ (j P : Nat), j ≤ 32 ∧ 2 ^ j = P ∧ upTo lo b o (j + 1) = -1 ∧ t = .int .i64 P ∧ Box4 w.heap.size lo hi b o wr ∧ Below w.heap.size w wr ∧ w.heap.size < wr.heap.size

set_option maxRecDepth 100000 in
set_option maxHeartbeats 2000000 in
theorem c_leastFromMin (lo b o : Nat) (hi : Int) (w : World) (hl : lo ≤ 4294967295) (hb : b ≤ 4294967295) (ho : o ≤ 4294967295) (hd : b &&& o = 0) :
    Calls Try.prog 78 #[rv lo hi b o] w fun e w' => e = .returned (.int .i64 (nextN lo b o)) ∧ Below w.heap.size w w' := by
  cases hh : hasN b o lo
  · have Hu : Hid (upTo lo b o 1 = -1) := by
      have := upTo_skip (lo := lo) (b := b) (o := o) (k := 0) hh
      rw [this]; rfl
    go_enter Try.func78, Try.ntmps78
    go_wp2_with fail
    refine (c_hasBits _ _ b o lo _ hb ho hl).mono ?_
    rintro e w1 ⟨rfl, hb1⟩
    have hx1 := (Box4.new w lo hi b o 54).below hb1 (by simp)
    have hz1 : w.heap.size < w1.heap.size := by have := hb1.size; simp at this; omega
    have hbel1 : Below w.heap.size w w1 := ((Below.refl _ _).alloc (Nat.le_refl _) _).trans (hb1.mono (by simp))
    clear hb1
    go_wp2_with fail
    go_loopw [3] (fun t wr => Round2 lo b o hi w t wr) (fun t _ => 8589934592 - (intOf t).toNat)
    case atStart => exact ⟨0, 1, by omega, rfl, Hu.out, rfl, hx1, hbel1, hz1⟩
    case round =>
      obtain ⟨j, P, hj, hP, hu, rfl, hbox, hbel, hz⟩ := hrel
      have c0 := hbox.c0; have c1 := hbox.c1; have c2 := hbox.c2; have c3 := hbox.c3
      have hP0 : 0 < P := by rw [← hP]; exact Nat.two_pow_pos _
      have hP32 : P ≤ 4294967296 := by rw [← hP]; exact Nat.pow_le_pow_right (n := 2) (j := 32) (by omega) (by omega)
      clear hx1 hz1 hbel1 Hu hh
      by_cases hj2 : j < 32
      · have hPl : P ≤ 4294967295 := by rw [← hP]; exact pow_le hj2
        obtain ⟨M, hM⟩ : ∃ M, P - 1 = M := ⟨_, rfl⟩
        have hMi : (P : Int) - 1 = M := by omega
        have e1 := andNot_i64 lo M hl (by omega)
        have l1 : lo &&& notB M ≤ 4294967295 := and_le _ hl
        have e2 := or_i64 (lo &&& notB M) P (by omega) (by omega)
        have l2 : (lo &&& notB M) ||| P ≤ 4294967295 := or_le l1 hPl
        have e3 := and_i64 b M (by omega) (by omega)
        have l3 : b &&& M ≤ 4294967295 := and_le _ hb
        have e4 := or_i64 ((lo &&& notB M) ||| P) (b &&& M) (by omega) (by omega)
        have hc : (lo &&& notB M) ||| P ||| (b &&& M) = cand lo b j := by rw [cand, hP, hM]
        rw [hc] at e4
        have lC := cand_le hl hb hj2
        have e5 := and_i64 lo P (by omega) (by omega)
        have hap := and_pow lo j
        rw [hP] at hap
        have hvd : valid lo b o (j + 1) = (!lo.testBit j && hasN b o (cand lo b j)) := rfl
        have hskip := upTo_skip (lo := lo) (b := b) (o := o) (k := j + 1)
        have htake := upTo_take (lo := lo) (b := b) (o := o) (k := j + 1)
        have hval : val lo b (j + 1) = cand lo b j := rfl
        rw [hval] at htake
        have hst : 0 ≤ upTo lo b o (j + 1 + 1) → nextN lo b o = upTo lo b o (j + 1 + 1) := fun h => upTo_stays h (by omega)
        rw [hu] at hskip htake
        have Hfin : Hid (upTo lo b o (j + 1 + 1) = -1 → ∀ x : Int, x = (P : Int) * 2 → ∀ wr', Box4 w.heap.size lo hi b o wr' → Below w.heap.size w wr' → w.heap.size < wr'.heap.size → Round2 lo b o hi w (.int .i64 x) wr') :=
          fun h x hx wr' h1 h2 h3 => ⟨j + 1, 2 * P, by omega, by rw [Nat.pow_succ, hP]; omega, h, by rw [hx]; congr 1; omega, h1, h2, h3⟩
        have Hskip : Hid _ := hskip
        have Htake : Hid _ := htake
        have Hst : Hid _ := hst
        have Hhv : Hid _ := hvd
        have Hc : Hid _ := hc
        clear hskip htake hst hvd hc hval hu hd hP
        cases hbit : lo.testBit j
        · rw [hbit] at hap
          replace hap : lo &&& P = 0 := hap
          rw [hap] at e5
          replace e5 : bits .and .i64 (lo : Int) (P : Int) = 0 := e5
          clear hap
          cases hc2 : hasN b o (cand lo b j)
          · have Hn : Hid (upTo lo b o (j + 1 + 1) = -1) := Hskip.out (by rw [Hhv.out, hbit, hc2]; rfl)
            clear hbit
            go_wp2_with fail
            refine (c_hasBits _ _ b o (cand lo b j) _ hb ho lC).mono ?_
            rintro e w2 ⟨rfl, hb2⟩
            have hx2 := hbox.below hb2 hz
            have hz2 : w.heap.size < w2.heap.size := by have := hb2.size; omega
            have hbel2 : Below w.heap.size w w2 := hbel.trans (hb2.mono (by omega))
            rw [hc2]
            go_wp2_with fail
            exact ⟨Hfin.out Hn.out _ rfl _ hx2 hbel2 hz2, by simp [intOf]; omega⟩
          · have Hn : Hid (nextN lo b o = cand lo b j) := by
              have := Htake.out (by rw [Hhv.out, hbit, hc2]; rfl) (by omega)
              have h2 := Hst.out (by rw [this]; omega)
              exact h2.trans this
            clear hbit
            go_wp2_with fail
            refine (c_hasBits _ _ b o (cand lo b j) _ hb ho lC).mono ?_
            rintro e w2 ⟨rfl, hb2⟩
            have hbel2 : Below w.heap.size w w2 := hbel.trans (hb2.mono (by omega))
            rw [hc2]
            go_wp2_with fail
            go_ret
            exact ⟨ret_int Hn.out.symm, hbel2⟩
        · rw [hbit] at hap
          replace hap : lo &&& P = P := hap
          rw [hap] at e5
          clear hap
          have hne : ((P : Int) == 0) = false := by simp; omega
          have Hn : Hid (upTo lo b o (j + 1 + 1) = -1) := Hskip.out (by rw [Hhv.out, hbit]; rfl)
          clear hbit
          go_wp2_with fail
          exact ⟨Hfin.out Hn.out _ rfl _ hbox hbel hz, by simp [intOf]; omega⟩
      · obtain rfl : j = 32 := by omega
        have hPe : P = 4294967296 := by rw [← hP]
        have hlt : 4294967295 < (P : Int) := by omega
        have Hu : Hid (upTo lo b o 33 = -1) := hu
        clear hP hu hPe hj hj2
        go_wp2_with fail
        go_ret
        exact ⟨ret_int Hu.out.symm, hbel⟩
  · have Hn : Hid (nextN lo b o = lo) := by
      have h1 : upTo lo b o 1 = lo := upTo_take (lo := lo) (b := b) (o := o) (k := 0) hh (by rw [upTo]; omega)
      have h2 := upTo_stays (lo := lo) (b := b) (o := o) (k := 1) (m := 33) (by rw [h1]; omega) (by omega)
      exact h2.trans h1
    go_enter Try.func78, Try.ntmps78
    go_wp2_with fail
    refine (c_hasBits _ _ b o lo _ hb ho hl).mono ?_
    rintro e w1 ⟨rfl, hb1⟩
    have hx1 := (Box4.new w lo hi b o 54).below hb1 (by simp)
    have hbel1 : Below w.heap.size w w1 := ((Below.refl _ _).alloc (Nat.le_refl _) _).trans (hb1.mono (by simp))
    have c0 := hx1.c0
    rw [hh]
    go_wp2_with fail
    go_ret
    exact ⟨ret_int Hn.out.symm, hbel1⟩
end Go.Proofs.Ytcopcajleonndaa
