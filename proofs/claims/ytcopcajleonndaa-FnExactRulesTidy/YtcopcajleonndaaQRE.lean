/- Contract of the specification's search of the least number. -/
import Derived.Test.YtcopcajleonndaaQRD
namespace Go.Proofs.Ytcopcajleonndaa
open Go.RowKit
set_option linter.unusedVariables false
set_option linter.unusedSimpArgs false

theorem mask0 (w : World) : Calls Try.prog 72 #[.int .i64 0] w fun e w' => e = .returned (.int .i64 0) ∧ w' = w := c_l2Mask 0 w (by omega)
theorem xor_top0 : bits .xor .i64 4294967295 0 = 4294967295 := by decide +kernel
theorem xor_toptop : bits .xor .i64 4294967295 4294967295 = 0 := by decide +kernel
theorem and_zero (b : Nat) (h : b ≤ 4294967295) : bits .and .i64 (b : Int) 0 = 0 := by
  have e := and_i64 b 0 (by omega) (by omega)
  simpa using e
theorem or_zero (b : Nat) (h : b ≤ 4294967295) : bits .or .i64 (b : Int) 0 = b := by
  have e := or_i64 b 0 (by omega) (by omega)
  simpa using e

/-- A range lies in a box. -/
structure Box4 (k : Nat) (lo hi b o : Int) (wr : World) : Prop where
  c0 : wr.cell? ⟨k, 0, none⟩ = some (.int .i64 lo)
  c1 : wr.cell? ⟨k, 1, none⟩ = some (.int .i64 hi)
  c2 : wr.cell? ⟨k, 2, none⟩ = some (.int .i64 b)
  c3 : wr.cell? ⟨k, 3, none⟩ = some (.int .i64 o)
theorem Box4.drewN {k : Nat} {lo hi b o : Int} {wr : World} (h : Box4 k lo hi b o wr) (n : Nat) : Box4 k lo hi b o (wr.drewN n) := ⟨h.c0, h.c1, h.c2, h.c3⟩
theorem Box4.new (w : World) (lo hi b o : Int) (t : TypeId) : Box4 w.heap.size lo hi b o (w.alloc (.cells #[.int .i64 lo, .int .i64 hi, .int .i64 b, .int .i64 o] t)) := by
  constructor <;> simp

/-- What a round of the search leaves. -/
def Round (lo hi : Int) (b o n : Nat) (w : World) (t k : Value) (wr : World) : Prop :=
  ∃ (i : Nat) (z u : Int), i ≤ 33 ∧ z = i ∧ u = upTo n b o i ∧ k = .int .i64 z ∧ t = .int .i64 u ∧ Box4 w.heap.size lo hi b o wr ∧ Below w.heap.size w wr

set_option maxRecDepth 100000 in
set_option maxHeartbeats 2000000 in
theorem c_l2Next (lo hi : Int) (b o n : Nat) (w : World) (hb : b ≤ 4294967295) (ho : o ≤ 4294967295) (hn : n ≤ 4294967295) (hd : b &&& o = 0) :
    Calls Try.prog 80 #[rv lo hi b o, .int .i64 n] w fun e w' => e = .returned (.int .i64 (nextN n b o)) ∧ Below w.heap.size w w' := by
  go_enter Try.func80, Try.ntmps80
  go_wp2_with fail
  go_loopw [5, 6] (fun t k wr => Round lo hi b o n w t k wr) (fun _ k _ => 33 - (intOf k).toNat)
  case atStart => exact ⟨0, 0, -1, by omega, rfl, rfl, rfl, rfl, Box4.new _ _ _ _ _ _, (Below.refl _ _).alloc (Nat.le_refl _) _⟩
  case round =>
    obtain ⟨i, z, u, hi33, hz, hu, rfl, rfl, hbox, hbel⟩ := hrel
    obtain ⟨c0, c1, c2, c3⟩ := hbox
    cases i with
    | zero =>
      have hm : Hid (∀ w, Calls Try.prog 72 #[.int .i64 0] w fun e w' => e = .returned (.int .i64 0) ∧ w' = w) := mask0
      have hv : Hid (∀ w, Calls Try.prog 82 #[.int .i64 0] w fun e w' => e = .returned (.int .i64 4294967295) ∧ ∃ m, w' = w.drewN m) := c_l2Over0
      have e1 := xor_top0
      have e2 := xor_toptop
      have e3 := and_top hn
      have e4 := xor_top o ho
      have e5 := and_i64 n (notB o) (by omega) (by have := not_le ho; omega)
      have e6 := and_top (and_le (notB o) hn)
      have e7 := and_top hb
      have e8 := and_zero b hb
      have e9 := or_zero n hn
      obtain rfl : z = 0 := hz
      obtain rfl : u = -1 := hu
      cases hv0 : hasN b o n
      · have hne : (((n &&& notB o : Nat) : Int) != (b : Int)) = true := by
          simp [hasN] at hv0; simp; omega
        have Hnext : Hid (upTo n b o 1 = -1) := by
          have := upTo_skip (lo := n) (b := b) (o := o) (k := 0) hv0
          rw [this]; rfl
        generalize (n &&& notB o) = N1 at *
        generalize (notB o) = O1 at *
        clear hv0 hd
        go_wp2_with fail
        go_quiet ((first | (go_at_call 48; exact Calls.quiet_of_same (c_l2Top _)) | (go_at_call 72; exact Calls.quiet_of_same (hm.out _)) | (go_at_call 82; exact Calls.quiet_of (hv.out _))))
        obtain ⟨c0, c1, c2, c3⟩ := Box4.drewN ⟨c0, c1, c2, c3⟩ nq
        replace hbel := drewN_below hbel nq
        generalize wr.drewN nq = wr at *
        go_wp2_with fail
        go_quiet ((first | (go_at_call 48; exact Calls.quiet_of_same (c_l2Top _)) | (go_at_call 72; exact Calls.quiet_of_same (hm.out _)) | (go_at_call 82; exact Calls.quiet_of (hv.out _))))
        obtain ⟨c0, c1, c2, c3⟩ := Box4.drewN ⟨c0, c1, c2, c3⟩ nq
        replace hbel := drewN_below hbel nq
        generalize wr.drewN nq = wr at *
        go_wp2_with fail
        exact ⟨⟨1, 1, _, by omega, rfl, Hnext.out.symm, rfl, rfl, ⟨c0, c1, c2, c3⟩, hbel⟩, by simp [intOf]⟩
      · have hne : (((n &&& notB o : Nat) : Int) != (b : Int)) = false := by
          simp [hasN] at hv0; simp; omega
        have Hnext : Hid (upTo n b o 1 = n) := by
          exact upTo_take (lo := n) (b := b) (o := o) (k := 0) hv0 (by rw [upTo]; omega)
        generalize (n &&& notB o) = N1 at *
        generalize (notB o) = O1 at *
        clear hv0 hd
        go_wp2_with fail
        go_quiet ((first | (go_at_call 48; exact Calls.quiet_of_same (c_l2Top _)) | (go_at_call 72; exact Calls.quiet_of_same (hm.out _)) | (go_at_call 82; exact Calls.quiet_of (hv.out _))))
        obtain ⟨c0, c1, c2, c3⟩ := Box4.drewN ⟨c0, c1, c2, c3⟩ nq
        replace hbel := drewN_below hbel nq
        generalize wr.drewN nq = wr at *
        go_wp2_with fail
        go_quiet ((first | (go_at_call 48; exact Calls.quiet_of_same (c_l2Top _)) | (go_at_call 72; exact Calls.quiet_of_same (hm.out _)) | (go_at_call 82; exact Calls.quiet_of (hv.out _))))
        obtain ⟨c0, c1, c2, c3⟩ := Box4.drewN ⟨c0, c1, c2, c3⟩ nq
        replace hbel := drewN_below hbel nq
        generalize wr.drewN nq = wr at *
        go_wp2_with fail
        go_quiet ((first | (go_at_call 48; exact Calls.quiet_of_same (c_l2Top _)) | (go_at_call 72; exact Calls.quiet_of_same (hm.out _)) | (go_at_call 82; exact Calls.quiet_of (hv.out _))))
        obtain ⟨c0, c1, c2, c3⟩ := Box4.drewN ⟨c0, c1, c2, c3⟩ nq
        replace hbel := drewN_below hbel nq
        generalize wr.drewN nq = wr at *
        go_wp2_with fail
        exact ⟨⟨1, 1, _, by omega, rfl, Hnext.out.symm, rfl, rfl, ⟨c0, c1, c2, c3⟩, hbel⟩, by simp [intOf]⟩
    | succ j =>
      obtain rfl : z = (j : Int) + 1 := by omega
      clear hz
      by_cases hj : j < 32
      · have hj0 : (0 : Int) ≤ j := by omega
        have hj1 : (j : Int) < 32 := by omega
        obtain ⟨P2, hP2⟩ : ∃ P, 2 ^ (j + 1) = P := ⟨_, rfl⟩
        obtain ⟨P1, hP1⟩ : ∃ P, 2 ^ j = P := ⟨_, rfl⟩
        have hP2l : P2 ≤ 4294967296 := by rw [← hP2]; exact Nat.pow_le_pow_right (n := 2) (j := 32) (by omega) (by omega)
        have hP20 : 0 < P2 := by rw [← hP2]; exact Nat.two_pow_pos _
        have hP1l : P1 ≤ 4294967295 := by rw [← hP1]; exact pow_le hj
        have s2 := shl_one (j := j + 1) (by omega) hP2
        have s1 := shl_one (j := j) (by omega) hP1
        have d2 : IntKind.i64.wrap ((P2 : Int) - 1) = ((P2 - 1 : Nat) : Int) := by rw [wrap_id (by omega) (by omega)]; omega
        have w1 : IntKind.i64.wrap ((j : Int) + 1 - 1) = j := by rw [wrap_id (by omega) (by omega)]; omega
        have hm : Hid (∀ w, Calls Try.prog 72 #[.int .i64 ((P2 - 1 : Nat) : Int)] w fun e w' => e = .returned (.int .i64 ((P2 - 1 : Nat) : Int)) ∧ w' = w) := by
          intro w; have := c_l2Mask (P2 - 1) w (by omega); rw [show maskOf (P2 - 1) = P2 - 1 by rw [← hP2]; exact mask_pow _] at this; exact this
        have hv : Hid (∀ w, Calls Try.prog 82 #[.int .i64 ((j : Int) + 1)] w fun e w' => e = .returned (.int .i64 ((notB (2 ^ j - 1) : Nat) : Int)) ∧ ∃ m, w' = w.drewN m) := fun w => c_l2OverS j hj w
        have e1 := xor_top (P2 - 1) (by omega)
        have l1 : notB (P2 - 1) ≤ 4294967295 := not_le (by omega)
        have e2 := and_i64 n (notB (P2 - 1)) (by omega) (by omega)
        have l2 : n &&& notB (P2 - 1) ≤ 4294967295 := and_le _ hn
        have e3 := or_i64 (n &&& notB (P2 - 1)) P1 (by omega) (by omega)
        have hX : (n &&& notB (P2 - 1)) ||| P1 = tryN n j := by rw [tryN, hP1, hP2]
        rw [hX] at e3
        have lX := try_le (n := n) hn hj
        have e4 := xor_top o ho
        have l4 := not_le ho
        have e5 := and_i64 (tryN n j) (notB o) (by omega) (by omega)
        have l5 : tryN n j &&& notB o ≤ 4294967295 := and_le _ lX
        have lV : notB (2 ^ j - 1) ≤ 4294967295 := not_le (mask_le (by omega))
        have e6 := and_i64 (tryN n j &&& notB o) (notB (2 ^ j - 1)) (by omega) (by omega)
        have e7 := and_i64 b (notB (2 ^ j - 1)) (by omega) (by omega)
        have e8 := and_i64 (tryN n j) (notB (2 ^ j - 1)) (by omega) (by omega)
        have e9 := xor_top (notB (2 ^ j - 1)) lV
        have l9 := not_le lV
        have e10 := and_i64 b (notB (notB (2 ^ j - 1))) (by omega) (by omega)
        have l8 : tryN n j &&& notB (2 ^ j - 1) ≤ 4294967295 := and_le _ lX
        have l10 : b &&& notB (notB (2 ^ j - 1)) ≤ 4294967295 := and_le _ hb
        have e11 := or_i64 (tryN n j &&& notB (2 ^ j - 1)) (b &&& notB (notB (2 ^ j - 1))) (by omega) (by omega)
        rw [try_is hn hb hj] at e11
        have lC := cand_le hn hb hj
        have hiff := try_has hn hb hd hj
        have hvd : valid n b o (j + 1) = (!n.testBit j && hasN b o (cand n b j)) := rfl
        have hval : val n b (j + 1) = cand n b j := rfl
        have hlt := upTo_lt (o := o) hn hb (show j + 1 < 33 by omega)
        have t0 : bits .and .i64 ((n : Int) / (2 : Int) ^ j) 1 = ((n / 2 ^ j % 2 : Nat) : Int) := by
          rw [shr_nat]; exact and_one _ (Nat.le_trans (Nat.div_le_self _ _) hn)
        rw [bit_is] at t0
        have hskip := upTo_skip (lo := n) (b := b) (o := o) (k := j + 1)
        have hkeep := upTo_keep (lo := n) (b := b) (o := o) (k := j + 1)
        have htake := upTo_take (lo := n) (b := b) (o := o) (k := j + 1)
        rw [hval] at hlt htake
        rw [← hu] at hlt hskip hkeep htake
        have hfin : ∀ x : Int, x = upTo n b o (j + 1 + 1) → ∀ wr', Box4 w.heap.size lo hi b o wr' → Below w.heap.size w wr' → Round lo hi b o n w (.int .i64 x) (.int .i64 ((j : Int) + 1 + 1)) wr' :=
          fun x hx wr' h1 h2 => ⟨j + 1 + 1, _, x, by omega, by omega, hx, rfl, rfl, h1, h2⟩
        have Hfin : Hid _ := hfin
        have Hhv : Hid _ := hvd
        have Hlt : Hid _ := hlt
        have Hskip : Hid _ := hskip
        have Hkeep : Hid _ := hkeep
        have Htake : Hid _ := htake
        have Hiff : Hid _ := hiff
        clear hfin hvd hlt hskip hkeep htake hiff hval hX hP1 hP2 hu hd
        cases hbit : n.testBit j
        · rw [hbit] at t0
          replace t0 : bits .and .i64 ((n : Int) / (2 : Int) ^ j) 1 = 0 := t0
          cases hh : hasN b o (cand n b j)
          · have hne : (((tryN n j &&& notB o &&& notB (2 ^ j - 1) : Nat) : Int) != ((b &&& notB (2 ^ j - 1) : Nat) : Int)) = true := by
              have := Hiff.out; rw [hh] at this; simp at this; simp; omega
            have Hx : Hid (u = upTo n b o (j + 1 + 1)) := (Hskip.out (by rw [Hhv.out, hbit, hh]; rfl)).symm
            clear hbit hh
            generalize notB (P2 - 1) = A1 at *
            generalize (n &&& A1) = A2 at *
            generalize P2 - 1 = A3 at *
            generalize (tryN n j &&& notB o &&& notB (2 ^ j - 1)) = A4 at *
            generalize (b &&& notB (2 ^ j - 1)) = A5 at *
            generalize (tryN n j &&& notB o) = A6 at *
            generalize (tryN n j &&& notB (2 ^ j - 1)) = A7 at *
            generalize (b &&& notB (notB (2 ^ j - 1))) = A8 at *
            generalize notB (notB (2 ^ j - 1)) = A9 at *
            generalize notB (2 ^ j - 1) = A10 at *
            generalize notB o = A11 at *
            generalize tryN n j = A12 at *
            generalize cand n b j = A13 at *
            go_wp2_with fail
            go_quiet ((first | (go_at_call 48; exact Calls.quiet_of_same (c_l2Top _)) | (go_at_call 72; exact Calls.quiet_of_same (hm.out _)) | (go_at_call 82; exact Calls.quiet_of (hv.out _))))
            obtain ⟨c0, c1, c2, c3⟩ := Box4.drewN ⟨c0, c1, c2, c3⟩ nq
            replace hbel := drewN_below hbel nq
            generalize wr.drewN nq = wr at *
            go_wp2_with fail
            go_quiet ((first | (go_at_call 48; exact Calls.quiet_of_same (c_l2Top _)) | (go_at_call 72; exact Calls.quiet_of_same (hm.out _)) | (go_at_call 82; exact Calls.quiet_of (hv.out _))))
            obtain ⟨c0, c1, c2, c3⟩ := Box4.drewN ⟨c0, c1, c2, c3⟩ nq
            replace hbel := drewN_below hbel nq
            generalize wr.drewN nq = wr at *
            go_wp2_with fail
            exact ⟨Hfin.out _ Hx.out _ ⟨c0, c1, c2, c3⟩ hbel, by simp [intOf]; omega⟩
          · have hne : (((tryN n j &&& notB o &&& notB (2 ^ j - 1) : Nat) : Int) != ((b &&& notB (2 ^ j - 1) : Nat) : Int)) = false := by
              have := Hiff.out; rw [hh] at this; simp at this; simp; omega
            have hva : valid n b o (j + 1) = true := by rw [Hhv.out, hbit, hh]; rfl
            have hul := Hlt.out hva
            have Htk : Hid (¬ 0 ≤ u → upTo n b o (j + 1 + 1) = (cand n b j : Nat)) := Htake.out hva
            clear hbit hh hva
            generalize notB (P2 - 1) = A1 at *
            generalize (n &&& A1) = A2 at *
            generalize P2 - 1 = A3 at *
            generalize (tryN n j &&& notB o &&& notB (2 ^ j - 1)) = A4 at *
            generalize (b &&& notB (2 ^ j - 1)) = A5 at *
            generalize (tryN n j &&& notB o) = A6 at *
            generalize (tryN n j &&& notB (2 ^ j - 1)) = A7 at *
            generalize (b &&& notB (notB (2 ^ j - 1))) = A8 at *
            generalize notB (notB (2 ^ j - 1)) = A9 at *
            generalize notB (2 ^ j - 1) = A10 at *
            generalize notB o = A11 at *
            generalize tryN n j = A12 at *
            generalize cand n b j = A13 at *
            by_cases g : 0 ≤ u
            · go_wp2_with fail
              go_quiet ((first | (go_at_call 48; exact Calls.quiet_of_same (c_l2Top _)) | (go_at_call 72; exact Calls.quiet_of_same (hm.out _)) | (go_at_call 82; exact Calls.quiet_of (hv.out _))))
              obtain ⟨c0, c1, c2, c3⟩ := Box4.drewN ⟨c0, c1, c2, c3⟩ nq
              replace hbel := drewN_below hbel nq
              generalize wr.drewN nq = wr at *
              go_wp2_with fail
              go_quiet ((first | (go_at_call 48; exact Calls.quiet_of_same (c_l2Top _)) | (go_at_call 72; exact Calls.quiet_of_same (hm.out _)) | (go_at_call 82; exact Calls.quiet_of (hv.out _))))
              obtain ⟨c0, c1, c2, c3⟩ := Box4.drewN ⟨c0, c1, c2, c3⟩ nq
              replace hbel := drewN_below hbel nq
              generalize wr.drewN nq = wr at *
              go_wp2_with fail
              go_quiet ((first | (go_at_call 48; exact Calls.quiet_of_same (c_l2Top _)) | (go_at_call 72; exact Calls.quiet_of_same (hm.out _)) | (go_at_call 82; exact Calls.quiet_of (hv.out _))))
              obtain ⟨c0, c1, c2, c3⟩ := Box4.drewN ⟨c0, c1, c2, c3⟩ nq
              replace hbel := drewN_below hbel nq
              generalize wr.drewN nq = wr at *
              go_wp2_with fail
              exact ⟨Hfin.out _ (Hkeep.out g).symm _ ⟨c0, c1, c2, c3⟩ hbel, by simp [intOf]; omega⟩
            · replace g : u < 0 := by omega
              go_wp2_with fail
              go_quiet ((first | (go_at_call 48; exact Calls.quiet_of_same (c_l2Top _)) | (go_at_call 72; exact Calls.quiet_of_same (hm.out _)) | (go_at_call 82; exact Calls.quiet_of (hv.out _))))
              obtain ⟨c0, c1, c2, c3⟩ := Box4.drewN ⟨c0, c1, c2, c3⟩ nq
              replace hbel := drewN_below hbel nq
              generalize wr.drewN nq = wr at *
              go_wp2_with fail
              go_quiet ((first | (go_at_call 48; exact Calls.quiet_of_same (c_l2Top _)) | (go_at_call 72; exact Calls.quiet_of_same (hm.out _)) | (go_at_call 82; exact Calls.quiet_of (hv.out _))))
              obtain ⟨c0, c1, c2, c3⟩ := Box4.drewN ⟨c0, c1, c2, c3⟩ nq
              replace hbel := drewN_below hbel nq
              generalize wr.drewN nq = wr at *
              go_wp2_with fail
              go_quiet ((first | (go_at_call 48; exact Calls.quiet_of_same (c_l2Top _)) | (go_at_call 72; exact Calls.quiet_of_same (hm.out _)) | (go_at_call 82; exact Calls.quiet_of (hv.out _))))
              obtain ⟨c0, c1, c2, c3⟩ := Box4.drewN ⟨c0, c1, c2, c3⟩ nq
              replace hbel := drewN_below hbel nq
              generalize wr.drewN nq = wr at *
              go_wp2_with fail
              exact ⟨Hfin.out _ (Htk.out (by omega)).symm _ ⟨c0, c1, c2, c3⟩ hbel, by simp [intOf]; omega⟩
        · rw [hbit] at t0
          replace t0 : bits .and .i64 ((n : Int) / (2 : Int) ^ j) 1 = 1 := t0
          have Hx : Hid (u = upTo n b o (j + 1 + 1)) := (Hskip.out (by rw [Hhv.out, hbit]; rfl)).symm
          clear hbit
          generalize notB (P2 - 1) = A1 at *
          generalize (n &&& A1) = A2 at *
          generalize P2 - 1 = A3 at *
          generalize (tryN n j &&& notB o &&& notB (2 ^ j - 1)) = A4 at *
          generalize (b &&& notB (2 ^ j - 1)) = A5 at *
          generalize (tryN n j &&& notB o) = A6 at *
          generalize (tryN n j &&& notB (2 ^ j - 1)) = A7 at *
          generalize (b &&& notB (notB (2 ^ j - 1))) = A8 at *
          generalize notB (notB (2 ^ j - 1)) = A9 at *
          generalize notB (2 ^ j - 1) = A10 at *
          generalize notB o = A11 at *
          generalize tryN n j = A12 at *
          generalize cand n b j = A13 at *
          go_wp2_with fail
          go_quiet ((first | (go_at_call 48; exact Calls.quiet_of_same (c_l2Top _)) | (go_at_call 72; exact Calls.quiet_of_same (hm.out _)) | (go_at_call 82; exact Calls.quiet_of (hv.out _))))
          obtain ⟨c0, c1, c2, c3⟩ := Box4.drewN ⟨c0, c1, c2, c3⟩ nq
          replace hbel := drewN_below hbel nq
          generalize wr.drewN nq = wr at *
          go_wp2_with fail
          exact ⟨Hfin.out _ Hx.out _ ⟨c0, c1, c2, c3⟩ hbel, by simp [intOf]; omega⟩
      · obtain rfl : j = 32 := by omega
        have Hu : Hid _ := hu
        clear hu
        go_wp2
        go_ret
        exact ⟨ret_int Hu.out, hbel⟩
end Go.Proofs.Ytcopcajleonndaa
