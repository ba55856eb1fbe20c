/- The walk of the law FnExactTableNew. -/
import Derived.Test.YtafhbigkdkgjoaaUK
import Derived.Test.YtafhbigkdkgjoaaUF
namespace Go.Proofs.Ytafhbigkdkgjoaa
open Go.RowKit
set_option linter.unusedSimpArgs false
set_option linter.unusedVariables false

theorem newT_len (k s r : Int) : (newT k s r).ks.length ≤ 1048576 ∧ (newT k s r).vs.length ≤ 1048576 := by
  unfold newT
  by_cases hsh : shapeB k s r = true
  · rw [if_pos hsh]
    simp [shapeB, inB] at hsh
    split
    · simp [keysN_length]; omega
    · simp
  · rw [if_neg hsh]; simp

set_option maxRecDepth 100000 in
set_option maxHeartbeats 8000000 in
theorem f4 (k s r : Int) (w : World) :
    Calls Try.prog 4 #[.int .i64 k, .int .i64 s, .int .i64 r] w fun e w' => e = .returned (.bool true) ∧ Below w.heap.size w w' := by
  have hlen := newT_len k s r
  obtain ⟨⟨K, S, R, KS, VS, CO⟩, hTR⟩ : ∃ q, newT k s r = q := ⟨_, rfl⟩
  rw [hTR] at hlen
  have hKS : KS.length ≤ 1048576 := hlen.1
  have hVS : VS.length ≤ 1048576 := hlen.2
  have HTR := hid hTR
  clear hTR hlen
  obtain ⟨n2, hN2⟩ : ∃ n2 : Nat, n2 = 1 + KS.length + VS.length := ⟨_, rfl⟩
  have hn2 : (0 : Int) ≤ (n2 : Int) := by omega
  go_enter Try.func4, Try.ntmps4
  go_wp2_with fail
  refine (f14 k s r _).mono ?_
  rw [HTR.out]
  dsimp only
  rintro e w1 ⟨V1, rfl, htab1, hb1⟩
  obtain ⟨a1, b1, c1', d1', rfl, P1⟩ := Tab.parts htab1
  have he1 : Exc (fun _ => False) w w1 := Exc.of hb1
  have z1 := he1.size
  have c1 : Below w.heap.size w w1 := he1.below (Nat.le_refl _) (fun _ h => h.elim)
  have y1 : w.heap.size ≤ w1.heap.size := c1.size
  have HTW1 := hid P1
  have HWlt : Hid (∀ q, isBlk a1 q ∨ isBlk b1 q → w.heap.size ≤ q ∧ q < w1.heap.size) := fun q h => h.elim (fun h => P1.bi q h) (fun h => P1.bs q h)
  clear P1 htab1
  go_wp2_with fail
  refine (f15 k s r _).mono ?_
  rw [HTR.out]
  dsimp only
  rintro e w2 ⟨V2, rfl, htab2, hb2⟩
  obtain ⟨a2, b2, c2', d2', rfl, P2⟩ := Tab.parts htab2
  have he2 : Exc (fun _ => False) w1 w2 := Exc.trans (Exc.of ((Below.refl _ _).alloc (Nat.le_refl _) (.cells #[.int .i64 K, .int .i64 S, .int .i64 R, .slice a1 KS.length c1', .slice b1 VS.length d1'] 28))) (Exc.of hb2)
  have HTW2 := hid (TabP.exc HTW1.out he2 (fun _ _ => id))
  clear HTW1
  have HBW2 := hid (B5.exc (S := fun _ => False) (B5.new w1 28 _ _ _ _ _) (Exc.of hb2) id)
  have z2 := he2.size
  have c2 : Below w.heap.size w w2 := c1.trans (he2.below (by omega) (fun _ h => h.elim))
  have y2 : w.heap.size ≤ w2.heap.size := c2.size
  simp only [World.size_alloc] at P2
  have HTG2 := hid P2
  have HGlt : Hid (∀ q, isBlk a2 q ∨ isBlk b2 q → w1.heap.size + 1 ≤ q ∧ q < w2.heap.size) := fun q h => h.elim (fun h => P2.bi q h) (fun h => P2.bs q h)
  clear P2 htab2
  obtain ⟨qW0, qW1, qW2, qW3, qW4⟩ := B5.cells HBW2.out
  have qWl := B5.lt HBW2.out
  go_wp2_with fail
  refine (f13g K S R KS VS a2 a1 b2 b1 _ _ _ _ _ (TabP.alloc HTG2.out (.cells #[.int .i64 K, .int .i64 S, .int .i64 R, .slice a2 KS.length c2', .slice b2 VS.length d2'] 28)).ints (TabP.alloc HTW2.out (.cells #[.int .i64 K, .int .i64 S, .int .i64 R, .slice a2 KS.length c2', .slice b2 VS.length d2'] 28)).ints (TabP.alloc HTG2.out (.cells #[.int .i64 K, .int .i64 S, .int .i64 R, .slice a2 KS.length c2', .slice b2 VS.length d2'] 28)).strs (TabP.alloc HTW2.out (.cells #[.int .i64 K, .int .i64 S, .int .i64 R, .slice a2 KS.length c2', .slice b2 VS.length d2'] 28)).strs hKS hVS).mono ?_
  rintro e w3 ⟨rfl, hb3⟩
  clear qW0 qW1 qW2 qW3 qW4 qWl
  have he3 : Exc (fun _ => False) w2 w3 := Exc.trans (Exc.of ((Below.refl _ _).alloc (Nat.le_refl _) (.cells #[.int .i64 K, .int .i64 S, .int .i64 R, .slice a2 KS.length c2', .slice b2 VS.length d2'] 28))) (Exc.of hb3)
  have HBW3 := hid (B5.exc HBW2.out he3 id)
  clear HBW2
  have HTW3 := hid (TabP.exc HTW2.out he3 (fun _ _ => id))
  clear HTW2
  have HTG3 := hid (TabP.exc HTG2.out he3 (fun _ _ => id))
  clear HTG2
  have HBG3 := hid (B5.exc (S := fun _ => False) (B5.new w2 28 _ _ _ _ _) (Exc.of hb3) id)
  have z3 := he3.size
  have c3 : Below w.heap.size w w3 := c2.trans (he3.below (by omega) (fun _ h => h.elim))
  have y3 : w.heap.size ≤ w3.heap.size := c3.size
  obtain ⟨qG0, qG1, qG2, qG3, qG4⟩ := B5.cells HBG3.out
  have qGl := B5.lt HBG3.out
  go_wp2_with fail
  refine (f16 K S R a2 b2 KS.length VS.length _ _ _ HTG3.out.wi HTG3.out.ws hKS hVS (fun q h => (HTG3.out.bi q h).2) (fun q h => (HTG3.out.bs q h).2) HTG3.out.ap).mono ?_
  rw [← hN2]
  rintro e w4 ⟨rfl, AI, AS, hb4⟩
  have nbW : ¬ (fun q => isBlk a2 q ∨ isBlk b2 q) w1.heap.size := by intro h; have := HGlt.out _ h; omega
  have nbG : ¬ (fun q => isBlk a2 q ∨ isBlk b2 q) w2.heap.size := by intro h; have := HGlt.out _ h; omega
  have ntW : ∀ q, isBlk a1 q ∨ isBlk b1 q → ¬ (fun q => isBlk a2 q ∨ isBlk b2 q) q := by intro q h h2; have h' := HWlt.out q h; have := HGlt.out q h2; omega
  have exB : ∀ q, (fun q => isBlk a2 q ∨ isBlk b2 q) q → w.heap.size ≤ q := by intro q h; have := HGlt.out q h; omega
  have HAI := hid AI
  have HAS := hid AS
  clear AI AS
  clear qG0 qG1 qG2 qG3 qG4 qGl
  clear HTG3
  have he4 : Exc (fun q => isBlk a2 q ∨ isBlk b2 q) w3 w4 := hb4
  have HBW4 := hid (B5.exc HBW3.out he4 (nbW))
  clear HBW3
  have HBG4 := hid (B5.exc HBG3.out he4 (nbG))
  clear HBG3
  have HTW4 := hid (TabP.exc HTW3.out he4 (ntW))
  clear HTW3
  have z4 := he4.size
  have c4 : Below w.heap.size w w4 := c3.trans (he4.below (by omega) exB)
  have y4 : w.heap.size ≤ w4.heap.size := c4.size
  clear nbW nbG ntW exB
  obtain ⟨qG0, qG1, qG2, qG3, qG4⟩ := B5.cells HBG4.out
  have qGl := B5.lt HBG4.out
  go_wp2_with fail
  refine (f17 K S R a2 b2 KS.length VS.length _ _ _ HAI.out HAS.out hKS hVS).mono ?_
  rw [← hN2]
  rintro e w5 ⟨rfl, hb5⟩
  clear qG0 qG1 qG2 qG3 qG4 qGl
  have he5 : Exc (fun _ => False) w4 w5 := Exc.of hb5
  have HBW5 := hid (B5.exc HBW4.out he5 id)
  clear HBW4
  have HBG5 := hid (B5.exc HBG4.out he5 id)
  clear HBG4
  have HTW5 := hid (TabP.exc HTW4.out he5 (fun _ _ => id))
  clear HTW4
  have z5 := he5.size
  have c5 : Below w.heap.size w w5 := c4.trans (he5.below (by omega) (fun _ h => h.elim))
  have y5 : w.heap.size ≤ w5.heap.size := c5.size
  go_wp2_with fail
  refine (f15 k s r _).mono ?_
  rw [HTR.out]
  dsimp only
  rintro e w6 ⟨V6, rfl, htab6, hb6⟩
  obtain ⟨a6, b6, c6', d6', rfl, P6⟩ := Tab.parts htab6
  have he6 : Exc (fun _ => False) w5 w6 := Exc.of hb6
  have HBW6 := hid (B5.exc HBW5.out he6 id)
  clear HBW5
  have HBG6 := hid (B5.exc HBG5.out he6 id)
  clear HBG5
  have HTW6 := hid (TabP.exc HTW5.out he6 (fun _ _ => id))
  clear HTW5
  have z6 := he6.size
  have c6 : Below w.heap.size w w6 := c5.trans (he6.below (by omega) (fun _ h => h.elim))
  have y6 : w.heap.size ≤ w6.heap.size := c6.size
  have HTH6 := hid P6
  clear P6 htab6
  obtain ⟨qW0, qW1, qW2, qW3, qW4⟩ := B5.cells HBW6.out
  have qWl := B5.lt HBW6.out
  go_wp2_with fail
  refine (f13g K S R KS VS a6 a1 b6 b1 _ _ _ _ _ (TabP.alloc HTH6.out (.cells #[.int .i64 K, .int .i64 S, .int .i64 R, .slice a6 KS.length c6', .slice b6 VS.length d6'] 28)).ints (TabP.alloc HTW6.out (.cells #[.int .i64 K, .int .i64 S, .int .i64 R, .slice a6 KS.length c6', .slice b6 VS.length d6'] 28)).ints (TabP.alloc HTH6.out (.cells #[.int .i64 K, .int .i64 S, .int .i64 R, .slice a6 KS.length c6', .slice b6 VS.length d6'] 28)).strs (TabP.alloc HTW6.out (.cells #[.int .i64 K, .int .i64 S, .int .i64 R, .slice a6 KS.length c6', .slice b6 VS.length d6'] 28)).strs hKS hVS).mono ?_
  rintro e w7 ⟨rfl, hb7⟩
  clear qW0 qW1 qW2 qW3 qW4 qWl
  have he7 : Exc (fun _ => False) w6 w7 := Exc.trans (Exc.of ((Below.refl _ _).alloc (Nat.le_refl _) (.cells #[.int .i64 K, .int .i64 S, .int .i64 R, .slice a6 KS.length c6', .slice b6 VS.length d6'] 28))) (Exc.of hb7)
  have HBW7 := hid (B5.exc HBW6.out he7 id)
  clear HBW6
  have HBG7 := hid (B5.exc HBG6.out he7 id)
  clear HBG6
  have HTW7 := hid (TabP.exc HTW6.out he7 (fun _ _ => id))
  clear HTW6
  have HTH7 := hid (TabP.exc HTH6.out he7 (fun _ _ => id))
  clear HTH6
  have HBH7 := hid (B5.exc (S := fun _ => False) (B5.new w6 28 _ _ _ _ _) (Exc.of hb7) id)
  have z7 := he7.size
  have c7 : Below w.heap.size w w7 := c6.trans (he7.below (by omega) (fun _ h => h.elim))
  have y7 : w.heap.size ≤ w7.heap.size := c7.size
  obtain ⟨qG0, qG1, qG2, qG3, qG4⟩ := B5.cells HBG7.out
  have qGl := B5.lt HBG7.out
  go_wp2_with fail
  refine (f17 K S R a2 b2 KS.length VS.length _ _ _ (((HAI.out.exc he5 (fun _ _ => id)).exc he6 (fun _ _ => id)).exc he7 (fun _ _ => id)) (((HAS.out.exc he5 (fun _ _ => id)).exc he6 (fun _ _ => id)).exc he7 (fun _ _ => id)) hKS hVS).mono ?_
  rw [← hN2]
  rintro e w8 ⟨rfl, hb8⟩
  go_wp2_with fail
  go_ret
  exact ⟨rfl, c7.trans (hb8.mono y7)⟩

end Go.Proofs.Ytafhbigkdkgjoaa
