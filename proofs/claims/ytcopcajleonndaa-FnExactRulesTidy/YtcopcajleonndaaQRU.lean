/- Contracts: RangeMeet of both. -/
import Derived.Test.YtcopcajleonndaaQRT1
import Derived.Test.YtcopcajleonndaaQRT2
import Derived.Test.YtcopcajleonndaaQRT3
import Derived.Test.YtcopcajleonndaaQRT4
import Derived.Test.YtcopcajleonndaaQLC
namespace Go.Proofs.Ytcopcajleonndaa
open Go.RowKit
set_option linter.unusedVariables false
set_option linter.unusedSimpArgs false

/-- What two ranges have in common, as far as that is a range: a number is of it, or none is. -/
def meetB (a b c d e f g h : Nat) : Bool := (clashN c d g h == 0) && decide (max a e ≤ min b f) && someN (max a e) (min b f) (c ||| g) (d &&& h)
abbrev meetV (a b c d e f g h : Nat) : Value := rv (tLo (max a e) (min b f) (c ||| g)) (tHi (max a e) (min b f) (c ||| g) (d &&& h)) (tB (max a e) (min b f) (c ||| g)) (tO (max a e) (min b f) (d &&& h))

theorem c_l2Meet_no (a b c d e f g h : Nat) (w : World) (A : OkN a b c d) (B : OkN e f g h) (hn : meetB a b c d e f g h = false) :
    Calls Try.prog 58 #[rv a b c d, rv e f g h] w fun ee w' => ee = .returned (.tuple #[rv 1 0 0 0, .bool false]) ∧ Below w.heap.size w w' := by
  by_cases hc : clashN c d g h = 0
  · by_cases k3 : max a e ≤ min b f
    · have hs : someN (max a e) (min b f) (c ||| g) (d &&& h) = false := by
        have e1 : decide (max a e ≤ min b f) = true := by simpa using k3
        have e2 : (clashN c d g h == 0) = true := by simpa using hc
        rw [meetB, e2, e1] at hn; simpa using hn
      have J := meet_ok A B k3
      by_cases k1 : (a : Int) < e
      · by_cases k2 : (f : Int) < b
        · rw [show max a e = e by omega, show min b f = f by omega] at J hs
          exact c_l2Meet3_1 a b c d e f g h w A B hc k1 k2 J hs
        · rw [show max a e = e by omega, show min b f = b by omega] at J hs
          exact c_l2Meet3_2 a b c d e f g h w A B hc k1 k2 J hs
      · by_cases k2 : (f : Int) < b
        · rw [show max a e = a by omega, show min b f = f by omega] at J hs
          exact c_l2Meet3_3 a b c d e f g h w A B hc k1 k2 J hs
        · rw [show max a e = a by omega, show min b f = b by omega] at J hs
          exact c_l2Meet3_4 a b c d e f g h w A B hc k1 k2 J hs
    · by_cases k1 : (a : Int) < e
      · by_cases k2 : (f : Int) < b
        · exact c_l2Meet2_1 a b c d e f g h w A B hc k1 k2 (by omega)
        · exact c_l2Meet2_2 a b c d e f g h w A B hc k1 k2 (by omega)
      · by_cases k2 : (f : Int) < b
        · exact c_l2Meet2_3 a b c d e f g h w A B hc k1 k2 (by omega)
        · exact c_l2Meet2_4 a b c d e f g h w A B hc k1 k2 (by omega)
  · exact c_l2Meet1 a b c d e f g h w A B hc

theorem meet_yes {a b c d e f g h : Nat} (A : OkN a b c d) (B : OkN e f g h) (hy : meetB a b c d e f g h = true) : clashN c d g h = 0 ∧ OkN (max a e) (min b f) (c ||| g) (d &&& h) ∧ someN (max a e) (min b f) (c ||| g) (d &&& h) = true := by
  rw [meetB, Bool.and_eq_true, Bool.and_eq_true, beq_iff_eq, decide_eq_true_eq] at hy
  exact ⟨hy.1.1, meet_ok A B hy.1.2, hy.2⟩

theorem c_l2Meet_yes (a b c d e f g h : Nat) (w : World) (A : OkN a b c d) (B : OkN e f g h) (hy : meetB a b c d e f g h = true) :
    Calls Try.prog 58 #[rv a b c d, rv e f g h] w fun ee w' => ee = .returned (.tuple #[meetV a b c d e f g h, .bool true]) ∧ Below w.heap.size w w' := by
  obtain ⟨hc, J, hs⟩ := meet_yes A B hy
  unfold meetV
  by_cases k1 : (a : Int) < e
  · by_cases k2 : (f : Int) < b
    · rw [show max a e = e by omega, show min b f = f by omega] at J hs ⊢
      exact c_l2Meet4_1 a b c d e f g h w A B hc k1 k2 J hs
    · rw [show max a e = e by omega, show min b f = b by omega] at J hs ⊢
      exact c_l2Meet4_2 a b c d e f g h w A B hc k1 k2 J hs
  · by_cases k2 : (f : Int) < b
    · rw [show max a e = a by omega, show min b f = f by omega] at J hs ⊢
      exact c_l2Meet4_3 a b c d e f g h w A B hc k1 k2 J hs
    · rw [show max a e = a by omega, show min b f = b by omega] at J hs ⊢
      exact c_l2Meet4_4 a b c d e f g h w A B hc k1 k2 J hs

set_option maxRecDepth 100000 in
set_option maxHeartbeats 2000000 in
theorem c_Meet_no3 (a b c d e f g h : Nat) (w : World) (A : OkN a b c d) (B : OkN e f g h) (hc : clashN c d g h ≠ 0) :
    Calls Try.prog 66 #[rv a b c d, rv e f g h] w fun ee w' => ee = .returned (.tuple #[rv 1 0 0 0, .bool false]) ∧ Below w.heap.size w w' := by
  have e0 := or_i64 c g (by have := A.b; omega) (by have := B.b; omega)
  have l0 : c ||| g ≤ 4294967295 := or_le A.b B.b
  have e1 := and_i64 d h (by have := A.o; omega) (by have := B.o; omega)
  have l1 : c ||| d ≤ 4294967295 := or_le A.b A.o
  have l2 : g ||| h ≤ 4294967295 := or_le B.b B.o
  have e2 := and_i64 (c ||| d) (g ||| h) (by omega) (by omega)
  have l3 : (c ||| d) &&& (g ||| h) ≤ 4294967295 := and_le _ l1
  have e3 := andNot_i64 (c ||| g) ((c ||| d) &&& (g ||| h)) l0 l3
  have hcl : (c ||| g) &&& notB ((c ||| d) &&& (g ||| h)) = clashN c d g h := rfl
  rw [hcl] at e3
  have M1 := hid (fun (x y : Int) w => c_may x y c d w A.b A.o)
  have M2 := hid (fun (x y : Int) w => c_may x y g h w B.b B.o)
  clear hcl
  have K1 := hid (okB_of A)
  have K2 := hid (okB_of B)
  have hcb : ((clashN c d g h : Int) != 0) = true := by simp; omega
  clear A B hc
  generalize clashN c d g h = CL at *
  generalize (c ||| d) &&& (g ||| h) = D1 at *
  generalize c ||| d = D2 at *
  generalize g ||| h = D3 at *
  generalize c ||| g = C at *
  generalize d &&& h = O at *
  have bA0 := hid (twoA w a b c d e f g h)
  have bB0 := hid (twoB w a b c d e f g h)
  have bQ0 := hid (twoQ w a b c d e f g h)
  have bel0 := hid (twoW w a b c d e f g h)
  go_enter Try.func66, Try.ntmps66
  go_wp2_with fail
  refine (c_RangeOk _ _ _ _ _).mono ?_
  rintro ee w1 ⟨rfl, hb1⟩
  have bA1 := hid (bA0.out.below hb1)
  have bB1 := hid (bB0.out.below hb1)
  have bQ1 := hid (bQ0.out.below hb1)
  have bel1 := hid (bel0.out.trans (hb1.mono bel0.out.size))
  clear hb1 bA0 bB0 bQ0 bel0
  rw [K1.out]
  obtain ⟨cA0, cA1, cA2, cA3⟩ := RBox.box bA1.out
  obtain ⟨cB0, cB1, cB2, cB3⟩ := RBox.box bB1.out
  go_wp2_with fail
  refine (c_RangeOk _ _ _ _ _).mono ?_
  rintro ee w2 ⟨rfl, hb2⟩
  have bA2 := hid (bA1.out.below hb2)
  have bB2 := hid (bB1.out.below hb2)
  have bQ2 := hid (bQ1.out.below hb2)
  have bel2 := hid (bel1.out.trans (hb2.mono bel1.out.size))
  clear hb2 bA1 bB1 bQ1 bel1
  rw [K2.out]
  clear cA0 cA1 cA2 cA3 cB0 cB1 cB2 cB3
  obtain ⟨cA0, cA1, cA2, cA3⟩ := RBox.box bA2.out
  obtain ⟨cB0, cB1, cB2, cB3⟩ := RBox.box bB2.out
  have ltA := RBox.lt bA2.out
  have ltB := RBox.lt bB2.out
  have ltQ := RBox.lt bQ2.out
  go_wp2_with fail
  have bA3 := hid (bA2.out.alloc (cellsR4 (max (a : Int) e) (min (b : Int) f) (C) (O)))
  have bB3 := hid (bB2.out.alloc (cellsR4 (max (a : Int) e) (min (b : Int) f) (C) (O)))
  have bQ3 := hid (bQ2.out.alloc (cellsR4 (max (a : Int) e) (min (b : Int) f) (C) (O)))
  have bO3 := hid (RBox.new w2 (max (a : Int) e) (min (b : Int) f) (C) (O))
  have bel3 := hid (bel2.out.alloc bel2.out.size (cellsR4 (max (a : Int) e) (min (b : Int) f) (C) (O)))
  clear bA2 bB2 bQ2 bel2
  generalize w2.alloc (cellsR4 (max (a : Int) e) (min (b : Int) f) (C) (O)) = w3 at *
  clear cA0 cA1 cA2 cA3 cB0 cB1 cB2 cB3
  refine wp_region_held_drew (S := (fun w' => w'.cell? ⟨w.heap.size, 0, none⟩ = some (.int .i64 (a)) ∧ w'.cell? ⟨w.heap.size, 1, none⟩ = some (.int .i64 (b)) ∧ w'.cell? ⟨w.heap.size, 2, none⟩ = some (.int .i64 (c)) ∧ w'.cell? ⟨w.heap.size, 3, none⟩ = some (.int .i64 (d)) ∧ w'.cell? ⟨w.heap.size + 1, 0, none⟩ = some (.int .i64 (e)) ∧ w'.cell? ⟨w.heap.size + 1, 1, none⟩ = some (.int .i64 (f)) ∧ w'.cell? ⟨w.heap.size + 1, 2, none⟩ = some (.int .i64 (g)) ∧ w'.cell? ⟨w.heap.size + 1, 3, none⟩ = some (.int .i64 (h)) ∧ w'.cell? ⟨w2.heap.size, 0, none⟩ = some (.int .i64 (max (a : Int) e)) ∧ w'.cell? ⟨w2.heap.size, 1, none⟩ = some (.int .i64 (min (b : Int) f)) ∧ w'.cell? ⟨w2.heap.size, 2, none⟩ = some (.int .i64 (C)) ∧ w'.cell? ⟨w2.heap.size, 3, none⟩ = some (.int .i64 (O)))) (by kernel_rfl) (by exact ⟨(RBox.box bA3.out).c0, (RBox.box bA3.out).c1, (RBox.box bA3.out).c2, (RBox.box bA3.out).c3, (RBox.box bB3.out).c0, (RBox.box bB3.out).c1, (RBox.box bB3.out).c2, (RBox.box bB3.out).c3, (RBox.box bO3.out).c0, (RBox.box bO3.out).c1, (RBox.box bO3.out).c2, (RBox.box bO3.out).c3⟩) (fun hHeld => ?_)
  have hA := hid (RBox.drew bA3.out)
  have hB := hid (RBox.drew bB3.out)
  have hQ := hid (RBox.drew bQ3.out)
  have hO := hid (RBox.drew bO3.out)
  have hbel := hid (Below.drew bel3.out)
  clear bA3 bB3 bQ3 bO3 bel3
  generalize w3.drew = W1 at *
  refine wpAnyH_take (i := 0) (oi := ?oi1) (v := ?v1) (fuel := 13) ?hi1 ?hs1 ?hf1 ?hr1 ?hq1 (Or.inl ⟨?hw1, ?hy1⟩) hHeld ?rest1
  case hi1 => rw [List.getElem?_toArray]; rfl
  case hq1 => exact fun _ _ _ h => h
  case hs1 => kernel_rfl
  case hf1 => kernel_rfl
  case hr1 => kernel_rfl
  case hw1 => rfl
  case hy1 => (intro w1 hSw; (try dsimp only at hSw); go_simp; try with_reducible rfl)
  (try simp only [Act.put, List.setIfInBounds_toArray, List.set_cons_zero, List.set_cons_succ])
  refine wpAnyH_take (i := 1) (oi := ?oi2) (v := ?v2) (fuel := 12) ?hi2 ?hs2 ?hf2 ?hr2 ?hq2 (Or.inl ⟨?hw2, ?hy2⟩) hHeld ?rest2
  case hi2 => rw [List.getElem?_toArray]; rfl
  case hq2 => exact fun _ _ _ h => h
  case hs2 => kernel_rfl
  case hf2 => kernel_rfl
  case hr2 => kernel_rfl
  case hw2 => rfl
  case hy2 => (intro w1 hSw; (try dsimp only at hSw); go_simp; try with_reducible rfl)
  (try simp only [Act.put, List.setIfInBounds_toArray, List.set_cons_zero, List.set_cons_succ])
  refine wpAnyH_take (i := 2) (oi := ?oi3) (v := ?v3) (fuel := 11) ?hi3 ?hs3 ?hf3 ?hr3 ?hq3 (Or.inl ⟨?hw3, ?hy3⟩) hHeld ?rest3
  case hi3 => rw [List.getElem?_toArray]; rfl
  case hq3 => exact fun _ _ _ h => h
  case hs3 => kernel_rfl
  case hf3 => kernel_rfl
  case hr3 => kernel_rfl
  case hw3 => rfl
  case hy3 => (intro w1 hSw; (try dsimp only at hSw); go_simp; try with_reducible rfl)
  (try simp only [Act.put, List.setIfInBounds_toArray, List.set_cons_zero, List.set_cons_succ])
  refine wpAnyH_take (i := 4) (oi := ?oi4) (v := ?v4) (fuel := 10) ?hi4 ?hs4 ?hf4 ?hr4 ?hq4 (Or.inl ⟨?hw4, ?hy4⟩) hHeld ?rest4
  case hi4 => rw [List.getElem?_toArray]; rfl
  case hq4 => exact fun _ _ _ h => h
  case hs4 => kernel_rfl
  case hf4 => kernel_rfl
  case hr4 => kernel_rfl
  case hw4 => rfl
  case hy4 => (intro w1 hSw; (try dsimp only at hSw); go_simp; try with_reducible rfl)
  (try simp only [Act.put, List.setIfInBounds_toArray, List.set_cons_zero, List.set_cons_succ])
  refine wpAnyH_ready (fuel := 9) (rs := [3]) (by kernel_rfl) (by simp) ?_
  refine AllReadyH.cons (o := ?oi5) ?hi5 (fun K hK => ?st5) AllReadyH.nil
  case hi5 => rw [List.getElem?_toArray]; rfl
  go_simp
  refine (M1.out _ _ _).mono ?_
  rintro ee wr3 ⟨rfl, hbn⟩
  replace hA := hid (hA.out.below hbn)
  replace hB := hid (hB.out.below hbn)
  replace hQ := hid (hQ.out.below hbn)
  replace hO := hid (hO.out.below hbn)
  replace hbel := hid (hbel.out.trans (hbn.mono hbel.out.size))
  clear hbn
  go_wp2_with fail
  refine hK.out _ _ ?hS5 (fun hHeld => ?re5)
  case hS5 => exact ⟨(RBox.box hA.out).c0, (RBox.box hA.out).c1, (RBox.box hA.out).c2, (RBox.box hA.out).c3, (RBox.box hB.out).c0, (RBox.box hB.out).c1, (RBox.box hB.out).c2, (RBox.box hB.out).c3, (RBox.box hO.out).c0, (RBox.box hO.out).c1, (RBox.box hO.out).c2, (RBox.box hO.out).c3⟩
  clear hK K
  (try simp only [Act.put, List.setIfInBounds_toArray, List.set_cons_zero, List.set_cons_succ])
  refine wpAnyH_ready (fuel := 8) (rs := [5]) (by kernel_rfl) (by simp) ?_
  refine AllReadyH.cons (o := ?oi6) ?hi6 (fun K hK => ?st6) AllReadyH.nil
  case hi6 => rw [List.getElem?_toArray]; rfl
  go_simp
  refine (M2.out _ _ _).mono ?_
  rintro ee wr5 ⟨rfl, hbn⟩
  replace hA := hid (hA.out.below hbn)
  replace hB := hid (hB.out.below hbn)
  replace hQ := hid (hQ.out.below hbn)
  replace hO := hid (hO.out.below hbn)
  replace hbel := hid (hbel.out.trans (hbn.mono hbel.out.size))
  clear hbn
  go_wp2_with fail
  refine hK.out _ _ ?hS6 (fun hHeld => ?re6)
  case hS6 => exact ⟨(RBox.box hA.out).c0, (RBox.box hA.out).c1, (RBox.box hA.out).c2, (RBox.box hA.out).c3, (RBox.box hB.out).c0, (RBox.box hB.out).c1, (RBox.box hB.out).c2, (RBox.box hB.out).c3, (RBox.box hO.out).c0, (RBox.box hO.out).c1, (RBox.box hO.out).c2, (RBox.box hO.out).c3⟩
  clear hK K
  (try simp only [Act.put, List.setIfInBounds_toArray, List.set_cons_zero, List.set_cons_succ])
  refine wpAnyH_take (i := 6) (oi := ?oi7) (v := ?v7) (fuel := 7) ?hi7 ?hs7 ?hf7 ?hr7 ?hq7 (Or.inl ⟨?hw7, ?hy7⟩) hHeld ?rest7
  case hi7 => rw [List.getElem?_toArray]; rfl
  case hq7 => exact fun _ _ _ h => h
  case hs7 => kernel_rfl
  case hf7 => kernel_rfl
  case hr7 => kernel_rfl
  case hw7 => rfl
  case hy7 => (intro w1 hSw; (try dsimp only at hSw); go_simp; try with_reducible rfl)
  (try simp only [Act.put, List.setIfInBounds_toArray, List.set_cons_zero, List.set_cons_succ])
  refine wpAnyH_take (i := 7) (oi := ?oi8) (v := ?v8) (fuel := 6) ?hi8 ?hs8 ?hf8 ?hr8 ?hq8 (Or.inl ⟨?hw8, ?hy8⟩) hHeld ?rest8
  case hi8 => rw [List.getElem?_toArray]; rfl
  case hq8 => exact fun _ _ _ h => h
  case hs8 => kernel_rfl
  case hf8 => kernel_rfl
  case hr8 => kernel_rfl
  case hw8 => rfl
  case hy8 => (intro w1 hSw; (try dsimp only at hSw); go_simp; try with_reducible rfl)
  (try simp only [Act.put, List.setIfInBounds_toArray, List.set_cons_zero, List.set_cons_succ])
  refine wpAnyH_take (i := 8) (oi := ?oi9) (v := ?v9) (fuel := 5) ?hi9 ?hs9 ?hf9 ?hr9 ?hq9 (Or.inl ⟨?hw9, ?hy9⟩) hHeld ?rest9
  case hi9 => rw [List.getElem?_toArray]; rfl
  case hq9 => exact fun _ _ _ h => h
  case hs9 => kernel_rfl
  case hf9 => kernel_rfl
  case hr9 => kernel_rfl
  case hw9 => rfl
  case hy9 => (intro w1 hSw; (try dsimp only at hSw); go_simp; try with_reducible rfl)
  (try simp only [Act.put, List.setIfInBounds_toArray, List.set_cons_zero, List.set_cons_succ])
  refine wpAnyH_take (i := 9) (oi := ?oi10) (v := ?v10) (fuel := 4) ?hi10 ?hs10 ?hf10 ?hr10 ?hq10 (Or.inl ⟨?hw10, ?hy10⟩) hHeld ?rest10
  case hi10 => rw [List.getElem?_toArray]; rfl
  case hq10 => exact fun _ _ _ h => h
  case hs10 => kernel_rfl
  case hf10 => kernel_rfl
  case hr10 => kernel_rfl
  case hw10 => rfl
  case hy10 => (intro w1 hSw; (try dsimp only at hSw); go_simp; try with_reducible rfl)
  (try simp only [Act.put, List.setIfInBounds_toArray, List.set_cons_zero, List.set_cons_succ])
  refine wpAnyH_ready (fuel := 3) (rs := [10]) (by kernel_rfl) (by simp) ?_
  refine AllReadyH.cons (o := ?oi11) ?hi11 (fun K hK => ?st11) AllReadyH.nil
  case hi11 => rw [List.getElem?_toArray]; rfl
  go_simp
  refine hK.out _ _ ?hS11 (fun hHeld => ?re11)
  case hS11 => exact ⟨(RBox.box hA.out).c0, (RBox.box hA.out).c1, (RBox.box hA.out).c2, (RBox.box hA.out).c3, (RBox.box hB.out).c0, (RBox.box hB.out).c1, (RBox.box hB.out).c2, (RBox.box hB.out).c3, (RBox.box hO.out).c0, (RBox.box hO.out).c1, (RBox.box hO.out).c2, (RBox.box hO.out).c3⟩
  clear hK K
  (try simp only [Act.put, List.setIfInBounds_toArray, List.set_cons_zero, List.set_cons_succ])
  refine wpAnyH_ready (fuel := 2) (rs := [11]) (by kernel_rfl) (by simp) ?_
  refine AllReadyH.cons (o := ?oi12) ?hi12 (fun K hK => ?st12) AllReadyH.nil
  case hi12 => rw [List.getElem?_toArray]; rfl
  go_simp
  refine hK.out _ _ ?hS12 (fun hHeld => ?re12)
  case hS12 => exact ⟨(RBox.box hA.out).c0, (RBox.box hA.out).c1, (RBox.box hA.out).c2, (RBox.box hA.out).c3, (RBox.box hB.out).c0, (RBox.box hB.out).c1, (RBox.box hB.out).c2, (RBox.box hB.out).c3, (RBox.box hO.out).c0, (RBox.box hO.out).c1, (RBox.box hO.out).c2, (RBox.box hO.out).c3⟩
  clear hK K
  (try simp only [Act.put, List.setIfInBounds_toArray, List.set_cons_zero, List.set_cons_succ])
  refine wpAnyH_ready (fuel := 1) (rs := [12]) (by kernel_rfl) (by simp) ?_
  refine AllReadyH.cons (o := ?oi13) ?hi13 (fun K hK => ?st13) AllReadyH.nil
  case hi13 => rw [List.getElem?_toArray]; rfl
  go_simp
  refine hK.out _ _ ?hS13 (fun hHeld => ?re13)
  case hS13 => exact ⟨(RBox.box hA.out).c0, (RBox.box hA.out).c1, (RBox.box hA.out).c2, (RBox.box hA.out).c3, (RBox.box hB.out).c0, (RBox.box hB.out).c1, (RBox.box hB.out).c2, (RBox.box hB.out).c3, (RBox.box hO.out).c0, (RBox.box hO.out).c1, (RBox.box hO.out).c2, (RBox.box hO.out).c3⟩
  clear hK K
  (try simp only [Act.put, List.setIfInBounds_toArray, List.set_cons_zero, List.set_cons_succ])
  refine wpAnyH_ready (fuel := 0) (rs := [13]) (by kernel_rfl) (by simp) ?_
  refine AllReadyH.cons (o := ?oi14) ?hi14 (fun K hK => ?st14) AllReadyH.nil
  case hi14 => rw [List.getElem?_toArray]; rfl
  go_simp
  refine hK.out _ _ ?hS14 (fun hHeld => ?re14)
  case hS14 => exact ⟨(RBox.box hA.out).c0, (RBox.box hA.out).c1, (RBox.box hA.out).c2, (RBox.box hA.out).c3, (RBox.box hB.out).c0, (RBox.box hB.out).c1, (RBox.box hB.out).c2, (RBox.box hB.out).c3, (RBox.box hO.out).c0, (RBox.box hO.out).c1, (RBox.box hO.out).c2, (RBox.box hO.out).c3⟩
  clear hK K
  (try simp only [Act.put, List.setIfInBounds_toArray, List.set_cons_zero, List.set_cons_succ])
  refine wpAnyH_done (by kernel_rfl) ?_ _
  clear hHeld
  generalize wr5 = w4 at *
  have bA4 := hA
  have bB4 := hB
  have bQ4 := hQ
  have bO4 := hO
  have bel4 := hbel
  clear hbel hA hB hQ hO
  go_wp2_with fail
  refine (c_noRange _).mono ?_
  rintro ee w5 ⟨rfl, hb5⟩
  have bA5 := hid (bA4.out.below hb5)
  have bB5 := hid (bB4.out.below hb5)
  have bQ5 := hid (bQ4.out.below hb5)
  have bO5 := hid (bO4.out.below hb5)
  have bel5 := hid (bel4.out.trans (hb5.mono bel4.out.size))
  clear hb5 bA4 bB4 bQ4 bO4 bel4
  obtain ⟨g0, g1, g2, g3⟩ := RBox.box bQ5.out
  have fq := RBox.frozen bQ5.out
  have P5 := hid (RBox.box (bQ5.out.st4 (x' := 1) (y' := 0) (z' := 0) (u' := 0)))
  have B5 := hid (st4_below (w.heap.size + 2) (1) (0) (0) (0) bel5.out (by omega))
  go_wp2_with fail
  obtain ⟨p0, p1, p2, p3⟩ := P5.out
  unfold st4 at p0 p1 p2 p3
  refine bodyPost_ret (v := .tuple #[rv 1 0 0 0, .bool false]) (by simp [results, Try.results66, go_sem, p0, p1, p2, p3]) rfl ⟨rfl, B5.out⟩

set_option maxRecDepth 100000 in
set_option maxHeartbeats 2000000 in
theorem c_Meet_no4 (a b c d e f g h : Nat) (w : World) (A : OkN a b c d) (B : OkN e f g h) (hc : clashN c d g h = 0) (hS : Hid (∀ w, Calls Try.prog 53 #[rv (max (a : Int) e) (min (b : Int) f) (c ||| g : Nat) (d &&& h : Nat)] w fun ee w' => ee = .returned (.bool false) ∧ Below w.heap.size w w')) :
    Calls Try.prog 66 #[rv a b c d, rv e f g h] w fun ee w' => ee = .returned (.tuple #[rv 1 0 0 0, .bool false]) ∧ Below w.heap.size w w' := by
  have e0 := or_i64 c g (by have := A.b; omega) (by have := B.b; omega)
  have l0 : c ||| g ≤ 4294967295 := or_le A.b B.b
  have e1 := and_i64 d h (by have := A.o; omega) (by have := B.o; omega)
  have l1 : c ||| d ≤ 4294967295 := or_le A.b A.o
  have l2 : g ||| h ≤ 4294967295 := or_le B.b B.o
  have e2 := and_i64 (c ||| d) (g ||| h) (by omega) (by omega)
  have l3 : (c ||| d) &&& (g ||| h) ≤ 4294967295 := and_le _ l1
  have e3 := andNot_i64 (c ||| g) ((c ||| d) &&& (g ||| h)) l0 l3
  have hcl : (c ||| g) &&& notB ((c ||| d) &&& (g ||| h)) = clashN c d g h := rfl
  rw [hcl] at e3
  have M1 := hid (fun (x y : Int) w => c_may x y c d w A.b A.o)
  have M2 := hid (fun (x y : Int) w => c_may x y g h w B.b B.o)
  clear hcl
  have K1 := hid (okB_of A)
  have K2 := hid (okB_of B)
  rw [hc] at e3
  have Hs := hS
  clear A B hc hS
  generalize (c ||| d) &&& (g ||| h) = D1 at *
  generalize c ||| d = D2 at *
  generalize g ||| h = D3 at *
  generalize c ||| g = C at *
  generalize d &&& h = O at *
  have bA0 := hid (twoA w a b c d e f g h)
  have bB0 := hid (twoB w a b c d e f g h)
  have bQ0 := hid (twoQ w a b c d e f g h)
  have bel0 := hid (twoW w a b c d e f g h)
  go_enter Try.func66, Try.ntmps66
  go_wp2_with fail
  refine (c_RangeOk _ _ _ _ _).mono ?_
  rintro ee w1 ⟨rfl, hb1⟩
  have bA1 := hid (bA0.out.below hb1)
  have bB1 := hid (bB0.out.below hb1)
  have bQ1 := hid (bQ0.out.below hb1)
  have bel1 := hid (bel0.out.trans (hb1.mono bel0.out.size))
  clear hb1 bA0 bB0 bQ0 bel0
  rw [K1.out]
  obtain ⟨cA0, cA1, cA2, cA3⟩ := RBox.box bA1.out
  obtain ⟨cB0, cB1, cB2, cB3⟩ := RBox.box bB1.out
  go_wp2_with fail
  refine (c_RangeOk _ _ _ _ _).mono ?_
  rintro ee w2 ⟨rfl, hb2⟩
  have bA2 := hid (bA1.out.below hb2)
  have bB2 := hid (bB1.out.below hb2)
  have bQ2 := hid (bQ1.out.below hb2)
  have bel2 := hid (bel1.out.trans (hb2.mono bel1.out.size))
  clear hb2 bA1 bB1 bQ1 bel1
  rw [K2.out]
  clear cA0 cA1 cA2 cA3 cB0 cB1 cB2 cB3
  obtain ⟨cA0, cA1, cA2, cA3⟩ := RBox.box bA2.out
  obtain ⟨cB0, cB1, cB2, cB3⟩ := RBox.box bB2.out
  have ltA := RBox.lt bA2.out
  have ltB := RBox.lt bB2.out
  have ltQ := RBox.lt bQ2.out
  go_wp2_with fail
  have bA3 := hid (bA2.out.alloc (cellsR4 (max (a : Int) e) (min (b : Int) f) (C) (O)))
  have bB3 := hid (bB2.out.alloc (cellsR4 (max (a : Int) e) (min (b : Int) f) (C) (O)))
  have bQ3 := hid (bQ2.out.alloc (cellsR4 (max (a : Int) e) (min (b : Int) f) (C) (O)))
  have bO3 := hid (RBox.new w2 (max (a : Int) e) (min (b : Int) f) (C) (O))
  have bel3 := hid (bel2.out.alloc bel2.out.size (cellsR4 (max (a : Int) e) (min (b : Int) f) (C) (O)))
  clear bA2 bB2 bQ2 bel2
  generalize w2.alloc (cellsR4 (max (a : Int) e) (min (b : Int) f) (C) (O)) = w3 at *
  clear cA0 cA1 cA2 cA3 cB0 cB1 cB2 cB3
  refine wp_region_held_drew (S := (fun w' => w'.cell? ⟨w.heap.size, 0, none⟩ = some (.int .i64 (a)) ∧ w'.cell? ⟨w.heap.size, 1, none⟩ = some (.int .i64 (b)) ∧ w'.cell? ⟨w.heap.size, 2, none⟩ = some (.int .i64 (c)) ∧ w'.cell? ⟨w.heap.size, 3, none⟩ = some (.int .i64 (d)) ∧ w'.cell? ⟨w.heap.size + 1, 0, none⟩ = some (.int .i64 (e)) ∧ w'.cell? ⟨w.heap.size + 1, 1, none⟩ = some (.int .i64 (f)) ∧ w'.cell? ⟨w.heap.size + 1, 2, none⟩ = some (.int .i64 (g)) ∧ w'.cell? ⟨w.heap.size + 1, 3, none⟩ = some (.int .i64 (h)) ∧ w'.cell? ⟨w2.heap.size, 0, none⟩ = some (.int .i64 (max (a : Int) e)) ∧ w'.cell? ⟨w2.heap.size, 1, none⟩ = some (.int .i64 (min (b : Int) f)) ∧ w'.cell? ⟨w2.heap.size, 2, none⟩ = some (.int .i64 (C)) ∧ w'.cell? ⟨w2.heap.size, 3, none⟩ = some (.int .i64 (O)))) (by kernel_rfl) (by exact ⟨(RBox.box bA3.out).c0, (RBox.box bA3.out).c1, (RBox.box bA3.out).c2, (RBox.box bA3.out).c3, (RBox.box bB3.out).c0, (RBox.box bB3.out).c1, (RBox.box bB3.out).c2, (RBox.box bB3.out).c3, (RBox.box bO3.out).c0, (RBox.box bO3.out).c1, (RBox.box bO3.out).c2, (RBox.box bO3.out).c3⟩) (fun hHeld => ?_)
  have hA := hid (RBox.drew bA3.out)
  have hB := hid (RBox.drew bB3.out)
  have hQ := hid (RBox.drew bQ3.out)
  have hO := hid (RBox.drew bO3.out)
  have hbel := hid (Below.drew bel3.out)
  clear bA3 bB3 bQ3 bO3 bel3
  generalize w3.drew = W1 at *
  refine wpAnyH_take (i := 0) (oi := ?oi15) (v := ?v15) (fuel := 13) ?hi15 ?hs15 ?hf15 ?hr15 ?hq15 (Or.inl ⟨?hw15, ?hy15⟩) hHeld ?rest15
  case hi15 => rw [List.getElem?_toArray]; rfl
  case hq15 => exact fun _ _ _ h => h
  case hs15 => kernel_rfl
  case hf15 => kernel_rfl
  case hr15 => kernel_rfl
  case hw15 => rfl
  case hy15 => (intro w1 hSw; (try dsimp only at hSw); go_simp; try with_reducible rfl)
  (try simp only [Act.put, List.setIfInBounds_toArray, List.set_cons_zero, List.set_cons_succ])
  refine wpAnyH_take (i := 1) (oi := ?oi16) (v := ?v16) (fuel := 12) ?hi16 ?hs16 ?hf16 ?hr16 ?hq16 (Or.inl ⟨?hw16, ?hy16⟩) hHeld ?rest16
  case hi16 => rw [List.getElem?_toArray]; rfl
  case hq16 => exact fun _ _ _ h => h
  case hs16 => kernel_rfl
  case hf16 => kernel_rfl
  case hr16 => kernel_rfl
  case hw16 => rfl
  case hy16 => (intro w1 hSw; (try dsimp only at hSw); go_simp; try with_reducible rfl)
  (try simp only [Act.put, List.setIfInBounds_toArray, List.set_cons_zero, List.set_cons_succ])
  refine wpAnyH_take (i := 2) (oi := ?oi17) (v := ?v17) (fuel := 11) ?hi17 ?hs17 ?hf17 ?hr17 ?hq17 (Or.inl ⟨?hw17, ?hy17⟩) hHeld ?rest17
  case hi17 => rw [List.getElem?_toArray]; rfl
  case hq17 => exact fun _ _ _ h => h
  case hs17 => kernel_rfl
  case hf17 => kernel_rfl
  case hr17 => kernel_rfl
  case hw17 => rfl
  case hy17 => (intro w1 hSw; (try dsimp only at hSw); go_simp; try with_reducible rfl)
  (try simp only [Act.put, List.setIfInBounds_toArray, List.set_cons_zero, List.set_cons_succ])
  refine wpAnyH_take (i := 4) (oi := ?oi18) (v := ?v18) (fuel := 10) ?hi18 ?hs18 ?hf18 ?hr18 ?hq18 (Or.inl ⟨?hw18, ?hy18⟩) hHeld ?rest18
  case hi18 => rw [List.getElem?_toArray]; rfl
  case hq18 => exact fun _ _ _ h => h
  case hs18 => kernel_rfl
  case hf18 => kernel_rfl
  case hr18 => kernel_rfl
  case hw18 => rfl
  case hy18 => (intro w1 hSw; (try dsimp only at hSw); go_simp; try with_reducible rfl)
  (try simp only [Act.put, List.setIfInBounds_toArray, List.set_cons_zero, List.set_cons_succ])
  refine wpAnyH_ready (fuel := 9) (rs := [3]) (by kernel_rfl) (by simp) ?_
  refine AllReadyH.cons (o := ?oi19) ?hi19 (fun K hK => ?st19) AllReadyH.nil
  case hi19 => rw [List.getElem?_toArray]; rfl
  go_simp
  refine (M1.out _ _ _).mono ?_
  rintro ee wr3 ⟨rfl, hbn⟩
  replace hA := hid (hA.out.below hbn)
  replace hB := hid (hB.out.below hbn)
  replace hQ := hid (hQ.out.below hbn)
  replace hO := hid (hO.out.below hbn)
  replace hbel := hid (hbel.out.trans (hbn.mono hbel.out.size))
  clear hbn
  go_wp2_with fail
  refine hK.out _ _ ?hS19 (fun hHeld => ?re19)
  case hS19 => exact ⟨(RBox.box hA.out).c0, (RBox.box hA.out).c1, (RBox.box hA.out).c2, (RBox.box hA.out).c3, (RBox.box hB.out).c0, (RBox.box hB.out).c1, (RBox.box hB.out).c2, (RBox.box hB.out).c3, (RBox.box hO.out).c0, (RBox.box hO.out).c1, (RBox.box hO.out).c2, (RBox.box hO.out).c3⟩
  clear hK K
  (try simp only [Act.put, List.setIfInBounds_toArray, List.set_cons_zero, List.set_cons_succ])
  refine wpAnyH_ready (fuel := 8) (rs := [5]) (by kernel_rfl) (by simp) ?_
  refine AllReadyH.cons (o := ?oi20) ?hi20 (fun K hK => ?st20) AllReadyH.nil
  case hi20 => rw [List.getElem?_toArray]; rfl
  go_simp
  refine (M2.out _ _ _).mono ?_
  rintro ee wr5 ⟨rfl, hbn⟩
  replace hA := hid (hA.out.below hbn)
  replace hB := hid (hB.out.below hbn)
  replace hQ := hid (hQ.out.below hbn)
  replace hO := hid (hO.out.below hbn)
  replace hbel := hid (hbel.out.trans (hbn.mono hbel.out.size))
  clear hbn
  go_wp2_with fail
  refine hK.out _ _ ?hS20 (fun hHeld => ?re20)
  case hS20 => exact ⟨(RBox.box hA.out).c0, (RBox.box hA.out).c1, (RBox.box hA.out).c2, (RBox.box hA.out).c3, (RBox.box hB.out).c0, (RBox.box hB.out).c1, (RBox.box hB.out).c2, (RBox.box hB.out).c3, (RBox.box hO.out).c0, (RBox.box hO.out).c1, (RBox.box hO.out).c2, (RBox.box hO.out).c3⟩
  clear hK K
  (try simp only [Act.put, List.setIfInBounds_toArray, List.set_cons_zero, List.set_cons_succ])
  refine wpAnyH_take (i := 6) (oi := ?oi21) (v := ?v21) (fuel := 7) ?hi21 ?hs21 ?hf21 ?hr21 ?hq21 (Or.inl ⟨?hw21, ?hy21⟩) hHeld ?rest21
  case hi21 => rw [List.getElem?_toArray]; rfl
  case hq21 => exact fun _ _ _ h => h
  case hs21 => kernel_rfl
  case hf21 => kernel_rfl
  case hr21 => kernel_rfl
  case hw21 => rfl
  case hy21 => (intro w1 hSw; (try dsimp only at hSw); go_simp; try with_reducible rfl)
  (try simp only [Act.put, List.setIfInBounds_toArray, List.set_cons_zero, List.set_cons_succ])
  refine wpAnyH_take (i := 7) (oi := ?oi22) (v := ?v22) (fuel := 6) ?hi22 ?hs22 ?hf22 ?hr22 ?hq22 (Or.inl ⟨?hw22, ?hy22⟩) hHeld ?rest22
  case hi22 => rw [List.getElem?_toArray]; rfl
  case hq22 => exact fun _ _ _ h => h
  case hs22 => kernel_rfl
  case hf22 => kernel_rfl
  case hr22 => kernel_rfl
  case hw22 => rfl
  case hy22 => (intro w1 hSw; (try dsimp only at hSw); go_simp; try with_reducible rfl)
  (try simp only [Act.put, List.setIfInBounds_toArray, List.set_cons_zero, List.set_cons_succ])
  refine wpAnyH_take (i := 8) (oi := ?oi23) (v := ?v23) (fuel := 5) ?hi23 ?hs23 ?hf23 ?hr23 ?hq23 (Or.inl ⟨?hw23, ?hy23⟩) hHeld ?rest23
  case hi23 => rw [List.getElem?_toArray]; rfl
  case hq23 => exact fun _ _ _ h => h
  case hs23 => kernel_rfl
  case hf23 => kernel_rfl
  case hr23 => kernel_rfl
  case hw23 => rfl
  case hy23 => (intro w1 hSw; (try dsimp only at hSw); go_simp; try with_reducible rfl)
  (try simp only [Act.put, List.setIfInBounds_toArray, List.set_cons_zero, List.set_cons_succ])
  refine wpAnyH_take (i := 9) (oi := ?oi24) (v := ?v24) (fuel := 4) ?hi24 ?hs24 ?hf24 ?hr24 ?hq24 (Or.inl ⟨?hw24, ?hy24⟩) hHeld ?rest24
  case hi24 => rw [List.getElem?_toArray]; rfl
  case hq24 => exact fun _ _ _ h => h
  case hs24 => kernel_rfl
  case hf24 => kernel_rfl
  case hr24 => kernel_rfl
  case hw24 => rfl
  case hy24 => (intro w1 hSw; (try dsimp only at hSw); go_simp; try with_reducible rfl)
  (try simp only [Act.put, List.setIfInBounds_toArray, List.set_cons_zero, List.set_cons_succ])
  refine wpAnyH_ready (fuel := 3) (rs := [10]) (by kernel_rfl) (by simp) ?_
  refine AllReadyH.cons (o := ?oi25) ?hi25 (fun K hK => ?st25) AllReadyH.nil
  case hi25 => rw [List.getElem?_toArray]; rfl
  go_simp
  refine hK.out _ _ ?hS25 (fun hHeld => ?re25)
  case hS25 => exact ⟨(RBox.box hA.out).c0, (RBox.box hA.out).c1, (RBox.box hA.out).c2, (RBox.box hA.out).c3, (RBox.box hB.out).c0, (RBox.box hB.out).c1, (RBox.box hB.out).c2, (RBox.box hB.out).c3, (RBox.box hO.out).c0, (RBox.box hO.out).c1, (RBox.box hO.out).c2, (RBox.box hO.out).c3⟩
  clear hK K
  (try simp only [Act.put, List.setIfInBounds_toArray, List.set_cons_zero, List.set_cons_succ])
  refine wpAnyH_ready (fuel := 2) (rs := [11]) (by kernel_rfl) (by simp) ?_
  refine AllReadyH.cons (o := ?oi26) ?hi26 (fun K hK => ?st26) AllReadyH.nil
  case hi26 => rw [List.getElem?_toArray]; rfl
  go_simp
  refine (Hs.out _).mono ?_
  rintro ee wr11 ⟨rfl, hbn⟩
  replace hA := hid (hA.out.below hbn)
  replace hB := hid (hB.out.below hbn)
  replace hQ := hid (hQ.out.below hbn)
  replace hO := hid (hO.out.below hbn)
  replace hbel := hid (hbel.out.trans (hbn.mono hbel.out.size))
  clear hbn
  go_wp2_with fail
  refine hK.out _ _ ?hS26 (fun hHeld => ?re26)
  case hS26 => exact ⟨(RBox.box hA.out).c0, (RBox.box hA.out).c1, (RBox.box hA.out).c2, (RBox.box hA.out).c3, (RBox.box hB.out).c0, (RBox.box hB.out).c1, (RBox.box hB.out).c2, (RBox.box hB.out).c3, (RBox.box hO.out).c0, (RBox.box hO.out).c1, (RBox.box hO.out).c2, (RBox.box hO.out).c3⟩
  clear hK K
  (try simp only [Act.put, List.setIfInBounds_toArray, List.set_cons_zero, List.set_cons_succ])
  refine wpAnyH_ready (fuel := 1) (rs := [12]) (by kernel_rfl) (by simp) ?_
  refine AllReadyH.cons (o := ?oi27) ?hi27 (fun K hK => ?st27) AllReadyH.nil
  case hi27 => rw [List.getElem?_toArray]; rfl
  go_simp
  refine hK.out _ _ ?hS27 (fun hHeld => ?re27)
  case hS27 => exact ⟨(RBox.box hA.out).c0, (RBox.box hA.out).c1, (RBox.box hA.out).c2, (RBox.box hA.out).c3, (RBox.box hB.out).c0, (RBox.box hB.out).c1, (RBox.box hB.out).c2, (RBox.box hB.out).c3, (RBox.box hO.out).c0, (RBox.box hO.out).c1, (RBox.box hO.out).c2, (RBox.box hO.out).c3⟩
  clear hK K
  (try simp only [Act.put, List.setIfInBounds_toArray, List.set_cons_zero, List.set_cons_succ])
  refine wpAnyH_ready (fuel := 0) (rs := [13]) (by kernel_rfl) (by simp) ?_
  refine AllReadyH.cons (o := ?oi28) ?hi28 (fun K hK => ?st28) AllReadyH.nil
  case hi28 => rw [List.getElem?_toArray]; rfl
  go_simp
  refine hK.out _ _ ?hS28 (fun hHeld => ?re28)
  case hS28 => exact ⟨(RBox.box hA.out).c0, (RBox.box hA.out).c1, (RBox.box hA.out).c2, (RBox.box hA.out).c3, (RBox.box hB.out).c0, (RBox.box hB.out).c1, (RBox.box hB.out).c2, (RBox.box hB.out).c3, (RBox.box hO.out).c0, (RBox.box hO.out).c1, (RBox.box hO.out).c2, (RBox.box hO.out).c3⟩
  clear hK K
  (try simp only [Act.put, List.setIfInBounds_toArray, List.set_cons_zero, List.set_cons_succ])
  refine wpAnyH_done (by kernel_rfl) ?_ _
  clear hHeld
  generalize wr11 = w4 at *
  have bA4 := hA
  have bB4 := hB
  have bQ4 := hQ
  have bO4 := hO
  have bel4 := hbel
  clear hbel hA hB hQ hO
  go_wp2_with fail
  refine (c_noRange _).mono ?_
  rintro ee w5 ⟨rfl, hb5⟩
  have bA5 := hid (bA4.out.below hb5)
  have bB5 := hid (bB4.out.below hb5)
  have bQ5 := hid (bQ4.out.below hb5)
  have bO5 := hid (bO4.out.below hb5)
  have bel5 := hid (bel4.out.trans (hb5.mono bel4.out.size))
  clear hb5 bA4 bB4 bQ4 bO4 bel4
  obtain ⟨g0, g1, g2, g3⟩ := RBox.box bQ5.out
  have fq := RBox.frozen bQ5.out
  have P5 := hid (RBox.box (bQ5.out.st4 (x' := 1) (y' := 0) (z' := 0) (u' := 0)))
  have B5 := hid (st4_below (w.heap.size + 2) (1) (0) (0) (0) bel5.out (by omega))
  go_wp2_with fail
  obtain ⟨p0, p1, p2, p3⟩ := P5.out
  unfold st4 at p0 p1 p2 p3
  refine bodyPost_ret (v := .tuple #[rv 1 0 0 0, .bool false]) (by simp [results, Try.results66, go_sem, p0, p1, p2, p3]) rfl ⟨rfl, B5.out⟩

set_option maxRecDepth 100000 in
set_option maxHeartbeats 2000000 in
theorem c_Meet_yes (a b c d e f g h : Nat) (w : World) (A : OkN a b c d) (B : OkN e f g h) (hc : clashN c d g h = 0) (J : OkN (max a e) (min b f) (c ||| g) (d &&& h)) (hs : someN (max a e) (min b f) (c ||| g) (d &&& h) = true) :
    Calls Try.prog 66 #[rv a b c d, rv e f g h] w fun ee w' => ee = .returned (.tuple #[meetV a b c d e f g h, .bool true]) ∧ Below w.heap.size w w' := by
  have e0 := or_i64 c g (by have := A.b; omega) (by have := B.b; omega)
  have l0 : c ||| g ≤ 4294967295 := or_le A.b B.b
  have e1 := and_i64 d h (by have := A.o; omega) (by have := B.o; omega)
  have l1 : c ||| d ≤ 4294967295 := or_le A.b A.o
  have l2 : g ||| h ≤ 4294967295 := or_le B.b B.o
  have e2 := and_i64 (c ||| d) (g ||| h) (by omega) (by omega)
  have l3 : (c ||| d) &&& (g ||| h) ≤ 4294967295 := and_le _ l1
  have e3 := andNot_i64 (c ||| g) ((c ||| d) &&& (g ||| h)) l0 l3
  have hcl : (c ||| g) &&& notB ((c ||| d) &&& (g ||| h)) = clashN c d g h := rfl
  rw [hcl] at e3
  have M1 := hid (fun (x y : Int) w => c_may x y c d w A.b A.o)
  have M2 := hid (fun (x y : Int) w => c_may x y g h w B.b B.o)
  clear hcl
  have K1 := hid (okB_of A)
  have K2 := hid (okB_of B)
  rw [hc] at e3
  have Hs := hid (fun w => c_RangeSome (max a e) (min b f) (c ||| g) (d &&& h) w J)
  rw [hs, show ((max a e : Nat) : Int) = max (a : Int) e by omega, show ((min b f : Nat) : Int) = min (b : Int) f by omega] at Hs
  have Ht := hid (fun w => c_RangeTidy (max a e) (min b f) (c ||| g) (d &&& h) w J hs)
  rw [show ((max a e : Nat) : Int) = max (a : Int) e by omega, show ((min b f : Nat) : Int) = min (b : Int) f by omega] at Ht
  clear A B hc J hs
  unfold meetV
  generalize (c ||| d) &&& (g ||| h) = D1 at *
  generalize c ||| d = D2 at *
  generalize g ||| h = D3 at *
  generalize c ||| g = C at *
  generalize d &&& h = O at *
  have bA0 := hid (twoA w a b c d e f g h)
  have bB0 := hid (twoB w a b c d e f g h)
  have bQ0 := hid (twoQ w a b c d e f g h)
  have bel0 := hid (twoW w a b c d e f g h)
  go_enter Try.func66, Try.ntmps66
  go_wp2_with fail
  refine (c_RangeOk _ _ _ _ _).mono ?_
  rintro ee w1 ⟨rfl, hb1⟩
  have bA1 := hid (bA0.out.below hb1)
  have bB1 := hid (bB0.out.below hb1)
  have bQ1 := hid (bQ0.out.below hb1)
  have bel1 := hid (bel0.out.trans (hb1.mono bel0.out.size))
  clear hb1 bA0 bB0 bQ0 bel0
  rw [K1.out]
  obtain ⟨cA0, cA1, cA2, cA3⟩ := RBox.box bA1.out
  obtain ⟨cB0, cB1, cB2, cB3⟩ := RBox.box bB1.out
  go_wp2_with fail
  refine (c_RangeOk _ _ _ _ _).mono ?_
  rintro ee w2 ⟨rfl, hb2⟩
  have bA2 := hid (bA1.out.below hb2)
  have bB2 := hid (bB1.out.below hb2)
  have bQ2 := hid (bQ1.out.below hb2)
  have bel2 := hid (bel1.out.trans (hb2.mono bel1.out.size))
  clear hb2 bA1 bB1 bQ1 bel1
  rw [K2.out]
  clear cA0 cA1 cA2 cA3 cB0 cB1 cB2 cB3
  obtain ⟨cA0, cA1, cA2, cA3⟩ := RBox.box bA2.out
  obtain ⟨cB0, cB1, cB2, cB3⟩ := RBox.box bB2.out
  have ltA := RBox.lt bA2.out
  have ltB := RBox.lt bB2.out
  have ltQ := RBox.lt bQ2.out
  go_wp2_with fail
  have bA3 := hid (bA2.out.alloc (cellsR4 (max (a : Int) e) (min (b : Int) f) (C) (O)))
  have bB3 := hid (bB2.out.alloc (cellsR4 (max (a : Int) e) (min (b : Int) f) (C) (O)))
  have bQ3 := hid (bQ2.out.alloc (cellsR4 (max (a : Int) e) (min (b : Int) f) (C) (O)))
  have bO3 := hid (RBox.new w2 (max (a : Int) e) (min (b : Int) f) (C) (O))
  have bel3 := hid (bel2.out.alloc bel2.out.size (cellsR4 (max (a : Int) e) (min (b : Int) f) (C) (O)))
  clear bA2 bB2 bQ2 bel2
  generalize w2.alloc (cellsR4 (max (a : Int) e) (min (b : Int) f) (C) (O)) = w3 at *
  clear cA0 cA1 cA2 cA3 cB0 cB1 cB2 cB3
  refine wp_region_held_drew (S := (fun w' => w'.cell? ⟨w.heap.size, 0, none⟩ = some (.int .i64 (a)) ∧ w'.cell? ⟨w.heap.size, 1, none⟩ = some (.int .i64 (b)) ∧ w'.cell? ⟨w.heap.size, 2, none⟩ = some (.int .i64 (c)) ∧ w'.cell? ⟨w.heap.size, 3, none⟩ = some (.int .i64 (d)) ∧ w'.cell? ⟨w.heap.size + 1, 0, none⟩ = some (.int .i64 (e)) ∧ w'.cell? ⟨w.heap.size + 1, 1, none⟩ = some (.int .i64 (f)) ∧ w'.cell? ⟨w.heap.size + 1, 2, none⟩ = some (.int .i64 (g)) ∧ w'.cell? ⟨w.heap.size + 1, 3, none⟩ = some (.int .i64 (h)) ∧ w'.cell? ⟨w2.heap.size, 0, none⟩ = some (.int .i64 (max (a : Int) e)) ∧ w'.cell? ⟨w2.heap.size, 1, none⟩ = some (.int .i64 (min (b : Int) f)) ∧ w'.cell? ⟨w2.heap.size, 2, none⟩ = some (.int .i64 (C)) ∧ w'.cell? ⟨w2.heap.size, 3, none⟩ = some (.int .i64 (O)))) (by kernel_rfl) (by exact ⟨(RBox.box bA3.out).c0, (RBox.box bA3.out).c1, (RBox.box bA3.out).c2, (RBox.box bA3.out).c3, (RBox.box bB3.out).c0, (RBox.box bB3.out).c1, (RBox.box bB3.out).c2, (RBox.box bB3.out).c3, (RBox.box bO3.out).c0, (RBox.box bO3.out).c1, (RBox.box bO3.out).c2, (RBox.box bO3.out).c3⟩) (fun hHeld => ?_)
  have hA := hid (RBox.drew bA3.out)
  have hB := hid (RBox.drew bB3.out)
  have hQ := hid (RBox.drew bQ3.out)
  have hO := hid (RBox.drew bO3.out)
  have hbel := hid (Below.drew bel3.out)
  clear bA3 bB3 bQ3 bO3 bel3
  generalize w3.drew = W1 at *
  refine wpAnyH_take (i := 0) (oi := ?oi29) (v := ?v29) (fuel := 13) ?hi29 ?hs29 ?hf29 ?hr29 ?hq29 (Or.inl ⟨?hw29, ?hy29⟩) hHeld ?rest29
  case hi29 => rw [List.getElem?_toArray]; rfl
  case hq29 => exact fun _ _ _ h => h
  case hs29 => kernel_rfl
  case hf29 => kernel_rfl
  case hr29 => kernel_rfl
  case hw29 => rfl
  case hy29 => (intro w1 hSw; (try dsimp only at hSw); go_simp; try with_reducible rfl)
  (try simp only [Act.put, List.setIfInBounds_toArray, List.set_cons_zero, List.set_cons_succ])
  refine wpAnyH_take (i := 1) (oi := ?oi30) (v := ?v30) (fuel := 12) ?hi30 ?hs30 ?hf30 ?hr30 ?hq30 (Or.inl ⟨?hw30, ?hy30⟩) hHeld ?rest30
  case hi30 => rw [List.getElem?_toArray]; rfl
  case hq30 => exact fun _ _ _ h => h
  case hs30 => kernel_rfl
  case hf30 => kernel_rfl
  case hr30 => kernel_rfl
  case hw30 => rfl
  case hy30 => (intro w1 hSw; (try dsimp only at hSw); go_simp; try with_reducible rfl)
  (try simp only [Act.put, List.setIfInBounds_toArray, List.set_cons_zero, List.set_cons_succ])
  refine wpAnyH_take (i := 2) (oi := ?oi31) (v := ?v31) (fuel := 11) ?hi31 ?hs31 ?hf31 ?hr31 ?hq31 (Or.inl ⟨?hw31, ?hy31⟩) hHeld ?rest31
  case hi31 => rw [List.getElem?_toArray]; rfl
  case hq31 => exact fun _ _ _ h => h
  case hs31 => kernel_rfl
  case hf31 => kernel_rfl
  case hr31 => kernel_rfl
  case hw31 => rfl
  case hy31 => (intro w1 hSw; (try dsimp only at hSw); go_simp; try with_reducible rfl)
  (try simp only [Act.put, List.setIfInBounds_toArray, List.set_cons_zero, List.set_cons_succ])
  refine wpAnyH_take (i := 4) (oi := ?oi32) (v := ?v32) (fuel := 10) ?hi32 ?hs32 ?hf32 ?hr32 ?hq32 (Or.inl ⟨?hw32, ?hy32⟩) hHeld ?rest32
  case hi32 => rw [List.getElem?_toArray]; rfl
  case hq32 => exact fun _ _ _ h => h
  case hs32 => kernel_rfl
  case hf32 => kernel_rfl
  case hr32 => kernel_rfl
  case hw32 => rfl
  case hy32 => (intro w1 hSw; (try dsimp only at hSw); go_simp; try with_reducible rfl)
  (try simp only [Act.put, List.setIfInBounds_toArray, List.set_cons_zero, List.set_cons_succ])
  refine wpAnyH_ready (fuel := 9) (rs := [3]) (by kernel_rfl) (by simp) ?_
  refine AllReadyH.cons (o := ?oi33) ?hi33 (fun K hK => ?st33) AllReadyH.nil
  case hi33 => rw [List.getElem?_toArray]; rfl
  go_simp
  refine (M1.out _ _ _).mono ?_
  rintro ee wr3 ⟨rfl, hbn⟩
  replace hA := hid (hA.out.below hbn)
  replace hB := hid (hB.out.below hbn)
  replace hQ := hid (hQ.out.below hbn)
  replace hO := hid (hO.out.below hbn)
  replace hbel := hid (hbel.out.trans (hbn.mono hbel.out.size))
  clear hbn
  go_wp2_with fail
  refine hK.out _ _ ?hS33 (fun hHeld => ?re33)
  case hS33 => exact ⟨(RBox.box hA.out).c0, (RBox.box hA.out).c1, (RBox.box hA.out).c2, (RBox.box hA.out).c3, (RBox.box hB.out).c0, (RBox.box hB.out).c1, (RBox.box hB.out).c2, (RBox.box hB.out).c3, (RBox.box hO.out).c0, (RBox.box hO.out).c1, (RBox.box hO.out).c2, (RBox.box hO.out).c3⟩
  clear hK K
  (try simp only [Act.put, List.setIfInBounds_toArray, List.set_cons_zero, List.set_cons_succ])
  refine wpAnyH_ready (fuel := 8) (rs := [5]) (by kernel_rfl) (by simp) ?_
  refine AllReadyH.cons (o := ?oi34) ?hi34 (fun K hK => ?st34) AllReadyH.nil
  case hi34 => rw [List.getElem?_toArray]; rfl
  go_simp
  refine (M2.out _ _ _).mono ?_
  rintro ee wr5 ⟨rfl, hbn⟩
  replace hA := hid (hA.out.below hbn)
  replace hB := hid (hB.out.below hbn)
  replace hQ := hid (hQ.out.below hbn)
  replace hO := hid (hO.out.below hbn)
  replace hbel := hid (hbel.out.trans (hbn.mono hbel.out.size))
  clear hbn
  go_wp2_with fail
  refine hK.out _ _ ?hS34 (fun hHeld => ?re34)
  case hS34 => exact ⟨(RBox.box hA.out).c0, (RBox.box hA.out).c1, (RBox.box hA.out).c2, (RBox.box hA.out).c3, (RBox.box hB.out).c0, (RBox.box hB.out).c1, (RBox.box hB.out).c2, (RBox.box hB.out).c3, (RBox.box hO.out).c0, (RBox.box hO.out).c1, (RBox.box hO.out).c2, (RBox.box hO.out).c3⟩
  clear hK K
  (try simp only [Act.put, List.setIfInBounds_toArray, List.set_cons_zero, List.set_cons_succ])
  refine wpAnyH_take (i := 6) (oi := ?oi35) (v := ?v35) (fuel := 7) ?hi35 ?hs35 ?hf35 ?hr35 ?hq35 (Or.inl ⟨?hw35, ?hy35⟩) hHeld ?rest35
  case hi35 => rw [List.getElem?_toArray]; rfl
  case hq35 => exact fun _ _ _ h => h
  case hs35 => kernel_rfl
  case hf35 => kernel_rfl
  case hr35 => kernel_rfl
  case hw35 => rfl
  case hy35 => (intro w1 hSw; (try dsimp only at hSw); go_simp; try with_reducible rfl)
  (try simp only [Act.put, List.setIfInBounds_toArray, List.set_cons_zero, List.set_cons_succ])
  refine wpAnyH_take (i := 7) (oi := ?oi36) (v := ?v36) (fuel := 6) ?hi36 ?hs36 ?hf36 ?hr36 ?hq36 (Or.inl ⟨?hw36, ?hy36⟩) hHeld ?rest36
  case hi36 => rw [List.getElem?_toArray]; rfl
  case hq36 => exact fun _ _ _ h => h
  case hs36 => kernel_rfl
  case hf36 => kernel_rfl
  case hr36 => kernel_rfl
  case hw36 => rfl
  case hy36 => (intro w1 hSw; (try dsimp only at hSw); go_simp; try with_reducible rfl)
  (try simp only [Act.put, List.setIfInBounds_toArray, List.set_cons_zero, List.set_cons_succ])
  refine wpAnyH_take (i := 8) (oi := ?oi37) (v := ?v37) (fuel := 5) ?hi37 ?hs37 ?hf37 ?hr37 ?hq37 (Or.inl ⟨?hw37, ?hy37⟩) hHeld ?rest37
  case hi37 => rw [List.getElem?_toArray]; rfl
  case hq37 => exact fun _ _ _ h => h
  case hs37 => kernel_rfl
  case hf37 => kernel_rfl
  case hr37 => kernel_rfl
  case hw37 => rfl
  case hy37 => (intro w1 hSw; (try dsimp only at hSw); go_simp; try with_reducible rfl)
  (try simp only [Act.put, List.setIfInBounds_toArray, List.set_cons_zero, List.set_cons_succ])
  refine wpAnyH_take (i := 9) (oi := ?oi38) (v := ?v38) (fuel := 4) ?hi38 ?hs38 ?hf38 ?hr38 ?hq38 (Or.inl ⟨?hw38, ?hy38⟩) hHeld ?rest38
  case hi38 => rw [List.getElem?_toArray]; rfl
  case hq38 => exact fun _ _ _ h => h
  case hs38 => kernel_rfl
  case hf38 => kernel_rfl
  case hr38 => kernel_rfl
  case hw38 => rfl
  case hy38 => (intro w1 hSw; (try dsimp only at hSw); go_simp; try with_reducible rfl)
  (try simp only [Act.put, List.setIfInBounds_toArray, List.set_cons_zero, List.set_cons_succ])
  refine wpAnyH_ready (fuel := 3) (rs := [10]) (by kernel_rfl) (by simp) ?_
  refine AllReadyH.cons (o := ?oi39) ?hi39 (fun K hK => ?st39) AllReadyH.nil
  case hi39 => rw [List.getElem?_toArray]; rfl
  go_simp
  refine hK.out _ _ ?hS39 (fun hHeld => ?re39)
  case hS39 => exact ⟨(RBox.box hA.out).c0, (RBox.box hA.out).c1, (RBox.box hA.out).c2, (RBox.box hA.out).c3, (RBox.box hB.out).c0, (RBox.box hB.out).c1, (RBox.box hB.out).c2, (RBox.box hB.out).c3, (RBox.box hO.out).c0, (RBox.box hO.out).c1, (RBox.box hO.out).c2, (RBox.box hO.out).c3⟩
  clear hK K
  (try simp only [Act.put, List.setIfInBounds_toArray, List.set_cons_zero, List.set_cons_succ])
  refine wpAnyH_ready (fuel := 2) (rs := [11]) (by kernel_rfl) (by simp) ?_
  refine AllReadyH.cons (o := ?oi40) ?hi40 (fun K hK => ?st40) AllReadyH.nil
  case hi40 => rw [List.getElem?_toArray]; rfl
  go_simp
  refine (Hs.out _).mono ?_
  rintro ee wr11 ⟨rfl, hbn⟩
  replace hA := hid (hA.out.below hbn)
  replace hB := hid (hB.out.below hbn)
  replace hQ := hid (hQ.out.below hbn)
  replace hO := hid (hO.out.below hbn)
  replace hbel := hid (hbel.out.trans (hbn.mono hbel.out.size))
  clear hbn
  go_wp2_with fail
  refine hK.out _ _ ?hS40 (fun hHeld => ?re40)
  case hS40 => exact ⟨(RBox.box hA.out).c0, (RBox.box hA.out).c1, (RBox.box hA.out).c2, (RBox.box hA.out).c3, (RBox.box hB.out).c0, (RBox.box hB.out).c1, (RBox.box hB.out).c2, (RBox.box hB.out).c3, (RBox.box hO.out).c0, (RBox.box hO.out).c1, (RBox.box hO.out).c2, (RBox.box hO.out).c3⟩
  clear hK K
  (try simp only [Act.put, List.setIfInBounds_toArray, List.set_cons_zero, List.set_cons_succ])
  refine wpAnyH_ready (fuel := 1) (rs := [12]) (by kernel_rfl) (by simp) ?_
  refine AllReadyH.cons (o := ?oi41) ?hi41 (fun K hK => ?st41) AllReadyH.nil
  case hi41 => rw [List.getElem?_toArray]; rfl
  go_simp
  refine hK.out _ _ ?hS41 (fun hHeld => ?re41)
  case hS41 => exact ⟨(RBox.box hA.out).c0, (RBox.box hA.out).c1, (RBox.box hA.out).c2, (RBox.box hA.out).c3, (RBox.box hB.out).c0, (RBox.box hB.out).c1, (RBox.box hB.out).c2, (RBox.box hB.out).c3, (RBox.box hO.out).c0, (RBox.box hO.out).c1, (RBox.box hO.out).c2, (RBox.box hO.out).c3⟩
  clear hK K
  (try simp only [Act.put, List.setIfInBounds_toArray, List.set_cons_zero, List.set_cons_succ])
  refine wpAnyH_ready (fuel := 0) (rs := [13]) (by kernel_rfl) (by simp) ?_
  refine AllReadyH.cons (o := ?oi42) ?hi42 (fun K hK => ?st42) AllReadyH.nil
  case hi42 => rw [List.getElem?_toArray]; rfl
  go_simp
  refine hK.out _ _ ?hS42 (fun hHeld => ?re42)
  case hS42 => exact ⟨(RBox.box hA.out).c0, (RBox.box hA.out).c1, (RBox.box hA.out).c2, (RBox.box hA.out).c3, (RBox.box hB.out).c0, (RBox.box hB.out).c1, (RBox.box hB.out).c2, (RBox.box hB.out).c3, (RBox.box hO.out).c0, (RBox.box hO.out).c1, (RBox.box hO.out).c2, (RBox.box hO.out).c3⟩
  clear hK K
  (try simp only [Act.put, List.setIfInBounds_toArray, List.set_cons_zero, List.set_cons_succ])
  refine wpAnyH_done (by kernel_rfl) ?_ _
  clear hHeld
  generalize wr11 = w4 at *
  have bA4 := hA
  have bB4 := hB
  have bQ4 := hQ
  have bO4 := hO
  have bel4 := hbel
  clear hbel hA hB hQ hO
  obtain ⟨cO0, cO1, cO2, cO3⟩ := RBox.box bO4.out
  go_wp2_with fail
  refine (Ht.out _).mono ?_
  rintro ee w5 ⟨rfl, hb5⟩
  have bA5 := hid (bA4.out.below hb5)
  have bB5 := hid (bB4.out.below hb5)
  have bQ5 := hid (bQ4.out.below hb5)
  have bO5 := hid (bO4.out.below hb5)
  have bel5 := hid (bel4.out.trans (hb5.mono bel4.out.size))
  clear hb5 bA4 bB4 bQ4 bO4 bel4
  clear cO0 cO1 cO2 cO3
  obtain ⟨g0, g1, g2, g3⟩ := RBox.box bQ5.out
  have fq := RBox.frozen bQ5.out
  have P5 := hid (RBox.box (bQ5.out.st4 (x' := tLo (max a e) (min b f) C) (y' := tHi (max a e) (min b f) C O) (z' := tB (max a e) (min b f) C) (u' := tO (max a e) (min b f) O)))
  have B5 := hid (st4_below (w.heap.size + 2) (tLo (max a e) (min b f) C) (tHi (max a e) (min b f) C O) (tB (max a e) (min b f) C) (tO (max a e) (min b f) O) bel5.out (by omega))
  go_wp2_with fail
  obtain ⟨p0, p1, p2, p3⟩ := P5.out
  unfold st4 at p0 p1 p2 p3
  refine bodyPost_ret (v := .tuple #[rv (tLo (max a e) (min b f) C) (tHi (max a e) (min b f) C O) (tB (max a e) (min b f) C) (tO (max a e) (min b f) O), .bool true]) (by simp [results, Try.results66, go_sem, p0, p1, p2, p3]) rfl ⟨rfl, B5.out⟩

end Go.Proofs.Ytcopcajleonndaa
