/- The walks of the exact laws of FramePut and FrameCut. -/
import Derived.Test.YtgdefengkacnfaaFD6
namespace Go.Proofs.Ytgdefengkacnfaa
open Go.RowKit
set_option linter.unusedVariables false
set_option linter.unusedSimpArgs false

set_option maxRecDepth 100000 in
set_option maxHeartbeats 4000000 in
theorem law_xfput (s : ByteArray) (W : World) :
    Calls Try.prog 6 #[.string s] W fun e w' => e = .returned (.bool true) ∧ Below W.heap.size W w' := by
  by_cases hs : (s.size : Int) ≤ 1048576
  · go_enter Try.func6, Try.ntmps6
    go_wp2_with fail
    refine (sfput_c s _).mono ?_
    rintro e w1 ⟨rfl, b1⟩
    go_wp2_with fail
    refine (fput_c s _).mono ?_
    rintro e w2 ⟨rfl, b2⟩
    generalize putF s = x at *
    go_wp2_with fail
    go_ret
    exact ⟨rfl, b1.trans (b2.mono b1.size)⟩
  · have hs' : (1048576 : Int) < (s.size : Int) := by omega
    clear hs
    go_enter Try.func6, Try.ntmps6
    go_wp2_with fail
    go_ret
    exact ⟨rfl, Below.refl _ _⟩

set_option maxRecDepth 100000 in
set_option maxHeartbeats 4000000 in
theorem law_xfcut (s : ByteArray) (W : World) :
    Calls Try.prog 5 #[.string s] W fun e w' => e = .returned (.bool true) ∧ Below W.heap.size W w' := by
  by_cases hs : (s.size : Int) ≤ 1048576
  · go_enter Try.func5, Try.ntmps5
    go_wp2_with fail
    refine (scut_c s _ (by omega)).mono ?_
    rintro e w1 ⟨ws, r, q, v, rfl, h1, hl, o1, b1⟩
    obtain ⟨a1, c1, rfl, A1, W1, B1⟩ := own_strs o1
    have H1 := hid h1
    have HA1 := hid A1
    have HB1 := hid B1
    clear h1 o1 A1 W1 B1
    go_wp2_with fail
    refine (cut_c s _ (by omega)).mono ?_
    rintro e w2 ⟨ws2, r2, q2, v2, rfl, h2, hl2, o2, b2⟩
    obtain ⟨rfl, rfl, rfl⟩ : ws2 = ws ∧ r2 = r ∧ q2 = q := by
      have := h2.trans H1.out.symm
      simp at this
      exact this
    obtain ⟨a2, c2, rfl, A2, W2, B2⟩ := own_strs o2
    have HA2 := hid A2
    have HW2 := hid W2
    have HB2 := hid B2
    replace HA1 := hid (HA1.out.below b2 (Nat.le_refl _))
    have c12 := b1.trans (b2.mono b1.size)
    have s1 := b1.size
    have s2 := b2.size
    clear h2 o2 A2 W2 B2
    go_wp2_with fail
    refine (f35g ws2 a2 a1 c2 c1 w2 HA2.out HA1.out (by omega)).mono ?_
    rintro e w3 ⟨rfl, b3⟩
    replace HA1 := hid (HA1.out.below b3 (Nat.le_refl _))
    have s3 := b3.size
    have c13 := c12.trans (b3.mono c12.size)
    have HW3 : Hid (Wr w3 a2 ws2.length) := by
      rcases HW2.out with h | ⟨g, rfl, hg, hr⟩
      · exact .inl h
      · exact .inr ⟨g, rfl, by omega, Room.below hr b3 hg⟩
    have hout : Hid (∀ k, isBlk a1 k → ¬ isBlk a2 k) := by
      intro k hk hk2
      have h1 := (HB1.out k hk).2.1
      have h2 := (HB2.out k hk2).1
      omega
    have hge : Hid (∀ k, isBlk a2 k → W.heap.size ≤ k) := by
      intro k hk
      have := (HB2.out k hk).1
      omega
    clear HB1 HB2 HW2 HA2
    have hn1 : ((1 + ws2.length : Nat) : Int) = (ws2.length : Int) + 1 := by omega
    cases q2
    all_goals (
      go_wp2_with fail
      refine (f42 a2 ws2.length c2 1 w3 HW3.out (by omega) (by omega) (by omega)).mono ?_
      rintro e w4 ⟨rfl, A4, W4, E4⟩
      have s4 := E4.size
      have HA4 := hid A4
      replace HA1 := hid (HA1.out.exc E4 hout.out)
      have c14 := c13.trans (E4.below c13.size hge.out)
      clear A4 W4 E4
      go_wp2_with fail
      refine (f44 a2 ws2.length c2 1 w4 HA4.out (by omega) (by omega) (by omega)).mono ?_
      rintro e w5 ⟨rfl, b5⟩
      replace HA1 := hid (HA1.out.below b5 (Nat.le_refl _))
      replace HA4 := hid (HA4.out.below b5 (Nat.le_refl _))
      have c15 := c14.trans (b5.mono c14.size)
      have s5 := b5.size
      rw [hn1]
      go_wp2_with fail
      refine (cut_c s w5 (by omega)).mono ?_
      rintro e w6 ⟨ws3, r3, q3, v3, rfl, h3, hl3, o3, b6⟩
      obtain ⟨rfl, rfl, rfl⟩ : ws3 = ws2 ∧ r3 = r2 ∧ q3 = _ := by
        have := h3.trans H1.out.symm
        simp only [Prod.mk.injEq] at this
        exact this
      obtain ⟨a3, c3, rfl, A3, W3, B3⟩ := own_strs o3
      have HA3 := hid A3
      replace HA1 := hid (HA1.out.below b6 (Nat.le_refl _))
      replace HA4 := hid (HA4.out.below b6 (Nat.le_refl _))
      have c16 := c15.trans (b6.mono c15.size)
      have s6 := b6.size
      clear h3 o3 A3 W3 B3
      go_wp2_with fail
      refine (f35g ws3 a3 a1 c3 c1 w6 HA3.out HA1.out (by omega)).mono ?_
      rintro e w7 ⟨rfl, b7⟩
      replace HA4 := hid (HA4.out.below b7 (Nat.le_refl _))
      have c17 := c16.trans (b7.mono c16.size)
      have s7 := b7.size
      go_wp2_with fail
      refine (f44 a2 ws3.length c2 1 w7 HA4.out (by omega) (by omega) (by omega)).mono ?_
      rintro e w8 ⟨rfl, b8⟩
      have c18 := c17.trans (b8.mono c17.size)
      rw [hn1]
      go_wp2_with fail
      go_ret
      exact ⟨rfl, c18⟩)
  · have hs' : (1048576 : Int) < (s.size : Int) := by omega
    clear hs
    go_enter Try.func5, Try.ntmps5
    go_wp2_with fail
    go_ret
    exact ⟨rfl, Below.refl _ _⟩
end Go.Proofs.Ytgdefengkacnfaa
