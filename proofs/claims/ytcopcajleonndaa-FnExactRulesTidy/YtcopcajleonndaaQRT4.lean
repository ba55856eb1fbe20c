/- Contracts: RangeMeet of both. -/
import Derived.Test.YtcopcajleonndaaQRT0
namespace Go.Proofs.Ytcopcajleonndaa
open Go.RowKit
set_option linter.unusedVariables false
set_option linter.unusedSimpArgs false

set_option maxRecDepth 100000 in
set_option maxHeartbeats 2000000 in
theorem c_l2Meet2_4 (a b c d e f g h : Nat) (w : World) (A : OkN a b c d) (B : OkN e f g h) (hc : clashN c d g h = 0) (k1 : ¬ (a : Int) < e) (k2 : ¬ (f : Int) < b) (k3 : (b : Int) < a) :
    Calls Try.prog 58 #[rv a b c d, rv e f g h] w fun ee w' => ee = .returned (.tuple #[rv 1 0 0 0, .bool false]) ∧ Below w.heap.size w w' := by
  have e0 := xor_top d A.o
  have l0 := not_le A.o
  have e1 := xor_top h B.o
  have l1 := not_le B.o
  have e2 := and_i64 (notB d) (notB h) (by omega) (by omega)
  have l2 : notB d &&& notB h ≤ 4294967295 := and_le _ l0
  have e3 := xor_i64 c g (by have := A.b; omega) (by have := B.b; omega)
  have l3 : c ^^^ g ≤ 4294967295 := xor_le A.b B.b
  have e4 := and_i64 (notB d &&& notB h) (c ^^^ g) (by omega) (by omega)
  rw [clash_spec A B] at e4
  have e5 := or_i64 c g (by have := A.b; omega) (by have := B.b; omega)
  have e6 := and_i64 d h (by have := A.o; omega) (by have := B.o; omega)
  rw [hc] at e4
  clear hc
  clear A B
  generalize notB d &&& notB h = D1 at *
  generalize notB d = D2 at *
  generalize notB h = D3 at *
  generalize c ^^^ g = D4 at *
  generalize c ||| g = C at *
  generalize d &&& h = O at *
  have bA0 : Hid (RBox (((w.alloc (cellsR4 a b c d)).alloc (cellsR4 e f g h)).alloc (cellsR4 0 0 0 0)) w.heap.size a b c d) := twoA w a b c d e f g h
  have bB0 : Hid (RBox (((w.alloc (cellsR4 a b c d)).alloc (cellsR4 e f g h)).alloc (cellsR4 0 0 0 0)) (w.heap.size + 1) e f g h) := twoB w a b c d e f g h
  have bQ0 : Hid (RBox (((w.alloc (cellsR4 a b c d)).alloc (cellsR4 e f g h)).alloc (cellsR4 0 0 0 0)) (w.heap.size + 2) 0 0 0 0) := twoQ w a b c d e f g h
  have bel0 : Hid (Below w.heap.size w (((w.alloc (cellsR4 a b c d)).alloc (cellsR4 e f g h)).alloc (cellsR4 0 0 0 0))) := twoW w a b c d e f g h
  go_enter Try.func58, Try.ntmps58
  go_wp2_with fail
  generalize ((w.alloc (cellsR4 a b c d)).alloc (cellsR4 e f g h)).alloc (cellsR4 0 0 0 0) = w0 at *
  obtain ⟨cA0, cA1, cA2, cA3⟩ := RBox.box bA0.out
  obtain ⟨cB0, cB1, cB2, cB3⟩ := RBox.box bB0.out
  go_quiet ((go_at_call 48; exact Calls.quiet_of_same (c_l2Top _)))
  have bA1 := hid (bA0.out.drewN nq)
  have bB1 := hid (bB0.out.drewN nq)
  have bQ1 := hid (bQ0.out.drewN nq)
  have bel1 := hid (drewN_below bel0.out nq)
  clear bA0 bB0 bQ0 bel0
  generalize w0.drewN nq = w1 at *
  clear cA0 cA1 cA2 cA3 cB0 cB1 cB2 cB3
  obtain ⟨cA0, cA1, cA2, cA3⟩ := RBox.box bA1.out
  obtain ⟨cB0, cB1, cB2, cB3⟩ := RBox.box bB1.out
  go_wp2_with fail
  go_quiet ((go_at_call 48; exact Calls.quiet_of_same (c_l2Top _)))
  have bA2 := hid (bA1.out.drewN nq)
  have bB2 := hid (bB1.out.drewN nq)
  have bQ2 := hid (bQ1.out.drewN nq)
  have bel2 := hid (drewN_below bel1.out nq)
  clear bA1 bB1 bQ1 bel1
  generalize w1.drewN nq = w2 at *
  clear cA0 cA1 cA2 cA3 cB0 cB1 cB2 cB3
  obtain ⟨cA0, cA1, cA2, cA3⟩ := RBox.box bA2.out
  obtain ⟨cB0, cB1, cB2, cB3⟩ := RBox.box bB2.out
  have ltA := RBox.lt bA2.out
  have ltB := RBox.lt bB2.out
  have ltQ := RBox.lt bQ2.out
  obtain ⟨g0, g1, g2, g3⟩ := RBox.box bQ2.out
  have fq := RBox.frozen bQ2.out
  have P5 := hid (RBox.box ((bQ2.out.st4 (x' := 1) (y' := 0) (z' := 0) (u' := 0)).alloc (cellsR4 a b C O)))
  have B5 := hid ((st4_below (w.heap.size + 2) 1 0 0 0 bel2.out (by omega)).alloc (st4_below (w.heap.size + 2) 1 0 0 0 bel2.out (by omega)).size (cellsR4 a b C O))
  go_wp2_with fail
  obtain ⟨p0, p1, p2, p3⟩ := P5.out
  unfold st4 at p0 p1 p2 p3
  refine bodyPost_ret (v := .tuple #[rv 1 0 0 0, .bool false]) (by simp [results, Try.results58, go_sem, p0, p1, p2, p3]) rfl ⟨rfl, B5.out⟩

set_option maxRecDepth 100000 in
set_option maxHeartbeats 2000000 in
theorem c_l2Meet3_4 (a b c d e f g h : Nat) (w : World) (A : OkN a b c d) (B : OkN e f g h) (hc : clashN c d g h = 0) (k1 : ¬ (a : Int) < e) (k2 : ¬ (f : Int) < b) (J : OkN a b (c ||| g) (d &&& h)) (hs : someN a b (c ||| g) (d &&& h) = false) :
    Calls Try.prog 58 #[rv a b c d, rv e f g h] w fun ee w' => ee = .returned (.tuple #[rv 1 0 0 0, .bool false]) ∧ Below w.heap.size w w' := by
  have e0 := xor_top d A.o
  have l0 := not_le A.o
  have e1 := xor_top h B.o
  have l1 := not_le B.o
  have e2 := and_i64 (notB d) (notB h) (by omega) (by omega)
  have l2 : notB d &&& notB h ≤ 4294967295 := and_le _ l0
  have e3 := xor_i64 c g (by have := A.b; omega) (by have := B.b; omega)
  have l3 : c ^^^ g ≤ 4294967295 := xor_le A.b B.b
  have e4 := and_i64 (notB d &&& notB h) (c ^^^ g) (by omega) (by omega)
  rw [clash_spec A B] at e4
  have e5 := or_i64 c g (by have := A.b; omega) (by have := B.b; omega)
  have e6 := and_i64 d h (by have := A.o; omega) (by have := B.o; omega)
  rw [hc] at e4
  clear hc
  have Hs := hid (fun w => c_l2Some a b (c ||| g) (d &&& h) w J)
  rw [hs] at Hs
  have k3 : (a : Int) ≤ b := by have := J.le; omega
  clear A B J hs
  generalize notB d &&& notB h = D1 at *
  generalize notB d = D2 at *
  generalize notB h = D3 at *
  generalize c ^^^ g = D4 at *
  generalize c ||| g = C at *
  generalize d &&& h = O at *
  have bA0 : Hid (RBox (((w.alloc (cellsR4 a b c d)).alloc (cellsR4 e f g h)).alloc (cellsR4 0 0 0 0)) w.heap.size a b c d) := twoA w a b c d e f g h
  have bB0 : Hid (RBox (((w.alloc (cellsR4 a b c d)).alloc (cellsR4 e f g h)).alloc (cellsR4 0 0 0 0)) (w.heap.size + 1) e f g h) := twoB w a b c d e f g h
  have bQ0 : Hid (RBox (((w.alloc (cellsR4 a b c d)).alloc (cellsR4 e f g h)).alloc (cellsR4 0 0 0 0)) (w.heap.size + 2) 0 0 0 0) := twoQ w a b c d e f g h
  have bel0 : Hid (Below w.heap.size w (((w.alloc (cellsR4 a b c d)).alloc (cellsR4 e f g h)).alloc (cellsR4 0 0 0 0))) := twoW w a b c d e f g h
  go_enter Try.func58, Try.ntmps58
  go_wp2_with fail
  generalize ((w.alloc (cellsR4 a b c d)).alloc (cellsR4 e f g h)).alloc (cellsR4 0 0 0 0) = w0 at *
  obtain ⟨cA0, cA1, cA2, cA3⟩ := RBox.box bA0.out
  obtain ⟨cB0, cB1, cB2, cB3⟩ := RBox.box bB0.out
  go_quiet ((go_at_call 48; exact Calls.quiet_of_same (c_l2Top _)))
  have bA1 := hid (bA0.out.drewN nq)
  have bB1 := hid (bB0.out.drewN nq)
  have bQ1 := hid (bQ0.out.drewN nq)
  have bel1 := hid (drewN_below bel0.out nq)
  clear bA0 bB0 bQ0 bel0
  generalize w0.drewN nq = w1 at *
  clear cA0 cA1 cA2 cA3 cB0 cB1 cB2 cB3
  obtain ⟨cA0, cA1, cA2, cA3⟩ := RBox.box bA1.out
  obtain ⟨cB0, cB1, cB2, cB3⟩ := RBox.box bB1.out
  go_wp2_with fail
  go_quiet ((go_at_call 48; exact Calls.quiet_of_same (c_l2Top _)))
  have bA2 := hid (bA1.out.drewN nq)
  have bB2 := hid (bB1.out.drewN nq)
  have bQ2 := hid (bQ1.out.drewN nq)
  have bel2 := hid (drewN_below bel1.out nq)
  clear bA1 bB1 bQ1 bel1
  generalize w1.drewN nq = w2 at *
  clear cA0 cA1 cA2 cA3 cB0 cB1 cB2 cB3
  obtain ⟨cA0, cA1, cA2, cA3⟩ := RBox.box bA2.out
  obtain ⟨cB0, cB1, cB2, cB3⟩ := RBox.box bB2.out
  have ltA := RBox.lt bA2.out
  have ltB := RBox.lt bB2.out
  have ltQ := RBox.lt bQ2.out
  go_wp2_with fail
  have bA3 := hid (bA2.out.alloc (cellsR4 (a) (b) (C) (O)))
  have bB3 := hid (bB2.out.alloc (cellsR4 (a) (b) (C) (O)))
  have bQ3 := hid (bQ2.out.alloc (cellsR4 (a) (b) (C) (O)))
  have bO3 := hid (RBox.new w2 (a) (b) (C) (O))
  have bel3 := hid (bel2.out.alloc bel2.out.size (cellsR4 (a) (b) (C) (O)))
  clear bA2 bB2 bQ2 bel2
  generalize w2.alloc (cellsR4 (a) (b) (C) (O)) = w3 at *
  clear cA0 cA1 cA2 cA3 cB0 cB1 cB2 cB3
  obtain ⟨cO0, cO1, cO2, cO3⟩ := RBox.box bO3.out
  go_wp2_with fail
  refine (Hs.out _).mono ?_
  rintro ee w4 ⟨rfl, hb4⟩
  have bA4 := hid (bA3.out.below hb4)
  have bB4 := hid (bB3.out.below hb4)
  have bQ4 := hid (bQ3.out.below hb4)
  have bO4 := hid (bO3.out.below hb4)
  have bel4 := hid (bel3.out.trans (hb4.mono bel3.out.size))
  clear hb4 bA3 bB3 bQ3 bO3 bel3
  clear cO0 cO1 cO2 cO3
  obtain ⟨g0, g1, g2, g3⟩ := RBox.box bQ4.out
  have fq := RBox.frozen bQ4.out
  have P5 := hid (RBox.box (bQ4.out.st4 (x' := 1) (y' := 0) (z' := 0) (u' := 0)))
  have B5 := hid (st4_below (w.heap.size + 2) (1) (0) (0) (0) bel4.out (by omega))
  go_wp2_with fail
  obtain ⟨p0, p1, p2, p3⟩ := P5.out
  unfold st4 at p0 p1 p2 p3
  refine bodyPost_ret (v := .tuple #[rv 1 0 0 0, .bool false]) (by simp [results, Try.results58, go_sem, p0, p1, p2, p3]) rfl ⟨rfl, B5.out⟩

set_option maxRecDepth 100000 in
set_option maxHeartbeats 2000000 in
theorem c_l2Meet4_4 (a b c d e f g h : Nat) (w : World) (A : OkN a b c d) (B : OkN e f g h) (hc : clashN c d g h = 0) (k1 : ¬ (a : Int) < e) (k2 : ¬ (f : Int) < b) (J : OkN a b (c ||| g) (d &&& h)) (hs : someN a b (c ||| g) (d &&& h) = true) :
    Calls Try.prog 58 #[rv a b c d, rv e f g h] w fun ee w' => ee = .returned (.tuple #[rv (tLo a b (c ||| g)) (tHi a b (c ||| g) (d &&& h)) (tB a b (c ||| g)) (tO a b (d &&& h)), .bool true]) ∧ Below w.heap.size w w' := by
  have e0 := xor_top d A.o
  have l0 := not_le A.o
  have e1 := xor_top h B.o
  have l1 := not_le B.o
  have e2 := and_i64 (notB d) (notB h) (by omega) (by omega)
  have l2 : notB d &&& notB h ≤ 4294967295 := and_le _ l0
  have e3 := xor_i64 c g (by have := A.b; omega) (by have := B.b; omega)
  have l3 : c ^^^ g ≤ 4294967295 := xor_le A.b B.b
  have e4 := and_i64 (notB d &&& notB h) (c ^^^ g) (by omega) (by omega)
  rw [clash_spec A B] at e4
  have e5 := or_i64 c g (by have := A.b; omega) (by have := B.b; omega)
  have e6 := and_i64 d h (by have := A.o; omega) (by have := B.o; omega)
  rw [hc] at e4
  clear hc
  have Hs := hid (fun w => c_l2Some a b (c ||| g) (d &&& h) w J)
  rw [hs] at Hs
  have k3 : (a : Int) ≤ b := by have := J.le; omega
  have Ht := hid (fun w => c_l2Tidy a b (c ||| g) (d &&& h) w J)
  clear A B J hs
  generalize notB d &&& notB h = D1 at *
  generalize notB d = D2 at *
  generalize notB h = D3 at *
  generalize c ^^^ g = D4 at *
  generalize c ||| g = C at *
  generalize d &&& h = O at *
  have bA0 : Hid (RBox (((w.alloc (cellsR4 a b c d)).alloc (cellsR4 e f g h)).alloc (cellsR4 0 0 0 0)) w.heap.size a b c d) := twoA w a b c d e f g h
  have bB0 : Hid (RBox (((w.alloc (cellsR4 a b c d)).alloc (cellsR4 e f g h)).alloc (cellsR4 0 0 0 0)) (w.heap.size + 1) e f g h) := twoB w a b c d e f g h
  have bQ0 : Hid (RBox (((w.alloc (cellsR4 a b c d)).alloc (cellsR4 e f g h)).alloc (cellsR4 0 0 0 0)) (w.heap.size + 2) 0 0 0 0) := twoQ w a b c d e f g h
  have bel0 : Hid (Below w.heap.size w (((w.alloc (cellsR4 a b c d)).alloc (cellsR4 e f g h)).alloc (cellsR4 0 0 0 0))) := twoW w a b c d e f g h
  go_enter Try.func58, Try.ntmps58
  go_wp2_with fail
  generalize ((w.alloc (cellsR4 a b c d)).alloc (cellsR4 e f g h)).alloc (cellsR4 0 0 0 0) = w0 at *
  obtain ⟨cA0, cA1, cA2, cA3⟩ := RBox.box bA0.out
  obtain ⟨cB0, cB1, cB2, cB3⟩ := RBox.box bB0.out
  go_quiet ((go_at_call 48; exact Calls.quiet_of_same (c_l2Top _)))
  have bA1 := hid (bA0.out.drewN nq)
  have bB1 := hid (bB0.out.drewN nq)
  have bQ1 := hid (bQ0.out.drewN nq)
  have bel1 := hid (drewN_below bel0.out nq)
  clear bA0 bB0 bQ0 bel0
  generalize w0.drewN nq = w1 at *
  clear cA0 cA1 cA2 cA3 cB0 cB1 cB2 cB3
  obtain ⟨cA0, cA1, cA2, cA3⟩ := RBox.box bA1.out
  obtain ⟨cB0, cB1, cB2, cB3⟩ := RBox.box bB1.out
  go_wp2_with fail
  go_quiet ((go_at_call 48; exact Calls.quiet_of_same (c_l2Top _)))
  have bA2 := hid (bA1.out.drewN nq)
  have bB2 := hid (bB1.out.drewN nq)
  have bQ2 := hid (bQ1.out.drewN nq)
  have bel2 := hid (drewN_below bel1.out nq)
  clear bA1 bB1 bQ1 bel1
  generalize w1.drewN nq = w2 at *
  clear cA0 cA1 cA2 cA3 cB0 cB1 cB2 cB3
  obtain ⟨cA0, cA1, cA2, cA3⟩ := RBox.box bA2.out
  obtain ⟨cB0, cB1, cB2, cB3⟩ := RBox.box bB2.out
  have ltA := RBox.lt bA2.out
  have ltB := RBox.lt bB2.out
  have ltQ := RBox.lt bQ2.out
  go_wp2_with fail
  have bA3 := hid (bA2.out.alloc (cellsR4 (a) (b) (C) (O)))
  have bB3 := hid (bB2.out.alloc (cellsR4 (a) (b) (C) (O)))
  have bQ3 := hid (bQ2.out.alloc (cellsR4 (a) (b) (C) (O)))
  have bO3 := hid (RBox.new w2 (a) (b) (C) (O))
  have bel3 := hid (bel2.out.alloc bel2.out.size (cellsR4 (a) (b) (C) (O)))
  clear bA2 bB2 bQ2 bel2
  generalize w2.alloc (cellsR4 (a) (b) (C) (O)) = w3 at *
  clear cA0 cA1 cA2 cA3 cB0 cB1 cB2 cB3
  obtain ⟨cO0, cO1, cO2, cO3⟩ := RBox.box bO3.out
  go_wp2_with fail
  refine (Hs.out _).mono ?_
  rintro ee w4 ⟨rfl, hb4⟩
  have bA4 := hid (bA3.out.below hb4)
  have bB4 := hid (bB3.out.below hb4)
  have bQ4 := hid (bQ3.out.below hb4)
  have bO4 := hid (bO3.out.below hb4)
  have bel4 := hid (bel3.out.trans (hb4.mono bel3.out.size))
  clear hb4 bA3 bB3 bQ3 bO3 bel3
  clear cO0 cO1 cO2 cO3
  obtain ⟨cO0, cO1, cO2, cO3⟩ := RBox.box bO4.out
  go_wp2_with fail
  refine (Ht.out _).mono ?_
  rintro ee w5 ⟨rfl, hb5⟩
  have bA5 := hid (bA4.out.below hb5)
  have bB5 := hid (bB4.out.below hb5)
  have bQ5 := hid (bQ4.out.below hb5)
  have bO5 := hid (bO4.out.below hb5)
  have bel5 := hid (bel4.out.trans (hb5.mono bel4.out.size))
  clear hb5 bA4 bB4 bQ4 bO4 bel4
  clear cO0 cO1 cO2 cO3
  obtain ⟨g0, g1, g2, g3⟩ := RBox.box bQ5.out
  have fq := RBox.frozen bQ5.out
  have P5 := hid (RBox.box (bQ5.out.st4 (x' := tLo a b C) (y' := tHi a b C O) (z' := tB a b C) (u' := tO a b O)))
  have B5 := hid (st4_below (w.heap.size + 2) (tLo a b C) (tHi a b C O) (tB a b C) (tO a b O) bel5.out (by omega))
  go_wp2_with fail
  obtain ⟨p0, p1, p2, p3⟩ := P5.out
  unfold st4 at p0 p1 p2 p3
  refine bodyPost_ret (v := .tuple #[rv (tLo a b C) (tHi a b C O) (tB a b C) (tO a b O), .bool true]) (by simp [results, Try.results58, go_sem, p0, p1, p2, p3]) rfl ⟨rfl, B5.out⟩

end Go.Proofs.Ytcopcajleonndaa
