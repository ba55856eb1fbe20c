/- TableLook: of the specification, and of the program. -/
import Derived.Test.YtahbicegmioplaaTM
namespace Go.Proofs.Ytahbicegmioplaa
open Go.RowKit
set_option linter.unusedSimpArgs false
set_option linter.unusedVariables false

noncomputable def lookT (k s r : Int) (ks : List Int) (vs : List ByteArray) (key : Int) : ByteArray × Bool := if okB k s r ks vs = true then lookP (ks.zip vs) key else (⟨#[]⟩, false)
theorem ret_two {x y : ByteArray × Bool} (h : x = y) : Ending.returned (.tuple #[.string x.1, .bool x.2]) = .returned (.tuple #[.string y.1, .bool y.2]) := by rw [h]

set_option maxRecDepth 100000 in
set_option maxHeartbeats 4000000 in
theorem f18 (k s r : Int) (ks : List Int) (vs : List ByteArray) (a b : Option Addr) (c d : Nat) (key : Int) (w : World) (hA : ArgI w a ks) (hB : ArgS w b vs) (hkm : ks.length ≤ 1048576) (hvm : vs.length ≤ 1048576) :
    Calls Try.prog 26 #[.agg #[.int .i64 k, .int .i64 s, .int .i64 r, .slice a ks.length c, .slice b vs.length d], .int .i64 key] w fun e w' => e = .returned (.tuple #[.string (lookT k s r ks vs key).1, .bool (lookT k s r ks vs key).2]) ∧ Below w.heap.size w w' := by
  have hcA : ∀ X, Below w.heap.size w (w.alloc X) := fun X => (Below.refl _ _).alloc (Nat.le_refl _) _
  have HA : Hid _ := hA
  have HB : Hid _ := hB
  clear hA hB
  cases hok : okB k s r ks vs
  · go_enter Try.func26, Try.ntmps26
    go_wp2_with fail
    refine (f28b k s r ks vs a b c d _ (ArgI.below HA.out (hcA _) (Nat.le_refl _)) (ArgS.below HB.out (hcA _) (Nat.le_refl _))).mono ?_
    rw [hok]
    rintro e w1 ⟨rfl, hb1⟩
    go_wp2_with fail
    go_ret2
    exact ⟨ret_two (x := (⟨#[]⟩, false)) (by unfold lookT; rw [hok]; rfl), (hcA _).trans (hb1.mono (by simp))⟩
  · have HOK : Hid _ := okB_true.1 hok
    rcases atI_cases ks key with ⟨hat, hno⟩ | ⟨i, hi, hat, hthere, hno⟩
    · have HNO : Hid _ := hno
      have HAT : Hid _ := hat
      clear hno hat
      go_enter Try.func26, Try.ntmps26
      go_wp2_with fail
      refine (f28b k s r ks vs a b c d _ (ArgI.below HA.out (hcA _) (Nat.le_refl _)) (ArgS.below HB.out (hcA _) (Nat.le_refl _))).mono ?_
      rw [hok]
      rintro e w1 ⟨rfl, hb1⟩
      obtain ⟨hc1, hf1⟩ := bcell hb1
      have z1 := hb1.size
      simp only [World.size_alloc] at z1
      have x1 : w.heap.size < w1.heap.size := by omega
      have c1 : Below w.heap.size w w1 := (hcA _).trans (hb1.mono (by simp))
      go_wp2_with fail
      refine (f45 k s r ks vs a b c d key _ (ArgI.below HA.out c1 (Nat.le_refl _)) hkm).mono ?_
      rw [HAT.out]
      rintro e w2 ⟨rfl, hb2⟩
      go_wp2_with fail
      go_ret2
      exact ⟨ret_two (x := (⟨#[]⟩, false)) (by unfold lookT; rw [hok, if_pos rfl]; exact (look_not HNO.out).symm), c1.trans (hb2.mono (by omega))⟩
    · have hlen := (shape2_len HOK.out.shape).1
      have hiv : i < vs.length := by omega
      have hiv' : (i : Int) < (vs.length : Int) := by omega
      have hik' : (i : Int) < (ks.length : Int) := by omega
      have hlk := look_there hlen hi hthere hno
      obtain ⟨b2, p2, rfl, hb2, hval⟩ := ArgS.at HB.out i hiv
      obtain ⟨x, hx⟩ : ∃ x, x = vs[i] := ⟨_, rfl⟩
      rw [← hx] at hval hlk
      have HLK : Hid _ := hlk
      have HAT : Hid _ := hat
      clear hno hat hx hlk hthere hlen
      go_enter Try.func26, Try.ntmps26
      go_wp2_with fail
      refine (f28b k s r ks vs a (some ⟨b2, p2, none⟩) c d _ (ArgI.below HA.out (hcA _) (Nat.le_refl _)) (ArgS.below HB.out (hcA _) (Nat.le_refl _))).mono ?_
      rw [hok]
      rintro e w1 ⟨rfl, hb1⟩
      obtain ⟨hc1, hf1⟩ := bcell hb1
      have z1 := hb1.size
      simp only [World.size_alloc] at z1
      have x1 : w.heap.size < w1.heap.size := by omega
      have c1 : Below w.heap.size w w1 := (hcA _).trans (hb1.mono (by simp))
      go_wp2_with fail
      refine (f45 k s r ks vs a (some ⟨b2, p2, none⟩) c d key _ (ArgI.below HA.out c1 (Nat.le_refl _)) hkm).mono ?_
      rw [HAT.out]
      rintro e w2 ⟨rfl, hbw2⟩
      have c2 : Below w.heap.size w w2 := c1.trans (hbw2.mono (by omega))
      have z2 := hbw2.size
      have x2 : w.heap.size < w2.heap.size := by omega
      have x3 : b2 < w2.heap.size := by omega
      have hval2 : w2.cell? ⟨b2, p2 + i, none⟩ = some (.string x) := (c2.cell hb2).trans hval
      have q0 : w2.cell? ⟨w.heap.size, 0, none⟩ = some (.int .i64 k) := by rw [hbw2.cell x1, hc1 _ _ (by simp)]; simp
      have q1 : w2.cell? ⟨w.heap.size, 1, none⟩ = some (.int .i64 s) := by rw [hbw2.cell x1, hc1 _ _ (by simp)]; simp
      have q2 : w2.cell? ⟨w.heap.size, 2, none⟩ = some (.int .i64 r) := by rw [hbw2.cell x1, hc1 _ _ (by simp)]; simp
      have q3 : w2.cell? ⟨w.heap.size, 3, none⟩ = some (.slice a ks.length c) := by rw [hbw2.cell x1, hc1 _ _ (by simp)]; simp
      have q4 : w2.cell? ⟨w.heap.size, 4, none⟩ = some (.slice (some ⟨b2, p2, none⟩) vs.length d) := by rw [hbw2.cell x1, hc1 _ _ (by simp)]; simp
      clear hc1 hf1
      go_wp2_with fail
      refine wp_region_held_drew (S := (fun w' => w'.cell? ⟨w.heap.size, 0, none⟩ = some (.int .i64 k) ∧ w'.cell? ⟨w.heap.size, 1, none⟩ = some (.int .i64 s) ∧ w'.cell? ⟨w.heap.size, 2, none⟩ = some (.int .i64 r) ∧ w'.cell? ⟨w.heap.size, 3, none⟩ = some (.slice a ks.length c) ∧ w'.cell? ⟨w.heap.size, 4, none⟩ = some (.slice (some ⟨b2, p2, none⟩) vs.length d) ∧ w'.cell? ⟨b2, p2 + i, none⟩ = some (.string x))) (by kernel_rfl) (by simp [*]) (fun hHeld => ?_)
      refine wpAnyH_take (i := 0) (oi := ?oi1) (v := ?v1) (fuel := 8) ?hi1 ?hs1 ?hf1 ?hr1 ?hq1 (Or.inl ⟨?hw1, ?hy1⟩) hHeld ?rest1
      case hi1 => rw [List.getElem?_toArray]; rfl
      case hq1 => exact fun _ _ _ h => h
      case hs1 => kernel_rfl
      case hf1 => kernel_rfl
      case hr1 => kernel_rfl
      case hw1 => rfl
      case hy1 => (intro w1 hSw; (try dsimp only at hSw); go_simp; try with_reducible rfl)
      (try simp only [Act.put, List.setIfInBounds_toArray, List.set_cons_zero, List.set_cons_succ])
      refine wpAnyH_take (i := 1) (oi := ?oi2) (v := ?v2) (fuel := 7) ?hi2 ?hs2 ?hf2 ?hr2 ?hq2 (Or.inl ⟨?hw2, ?hy2⟩) hHeld ?rest2
      case hi2 => rw [List.getElem?_toArray]; rfl
      case hq2 => exact fun _ _ _ h => h
      case hs2 => kernel_rfl
      case hf2 => kernel_rfl
      case hr2 => kernel_rfl
      case hw2 => rfl
      case hy2 => (intro w1 hSw; (try dsimp only at hSw); go_simp; try with_reducible rfl)
      (try simp only [Act.put, List.setIfInBounds_toArray, List.set_cons_zero, List.set_cons_succ])
      refine wpAnyH_take (i := 2) (oi := ?oi3) (v := ?v3) (fuel := 6) ?hi3 ?hs3 ?hf3 ?hr3 ?hq3 (Or.inl ⟨?hw3, ?hy3⟩) hHeld ?rest3
      case hi3 => rw [List.getElem?_toArray]; rfl
      case hq3 => exact fun _ _ _ h => h
      case hs3 => kernel_rfl
      case hf3 => kernel_rfl
      case hr3 => kernel_rfl
      case hw3 => rfl
      case hy3 => (intro w1 hSw; (try dsimp only at hSw); go_simp; try with_reducible rfl)
      (try simp only [Act.put, List.setIfInBounds_toArray, List.set_cons_zero, List.set_cons_succ])
      refine wpAnyH_take (i := 3) (oi := ?oi4) (v := ?v4) (fuel := 5) ?hi4 ?hs4 ?hf4 ?hr4 ?hq4 (Or.inl ⟨?hw4, ?hy4⟩) hHeld ?rest4
      case hi4 => rw [List.getElem?_toArray]; rfl
      case hq4 => exact fun _ _ _ h => h
      case hs4 => kernel_rfl
      case hf4 => kernel_rfl
      case hr4 => kernel_rfl
      case hw4 => rfl
      case hy4 => (intro w1 hSw; (try dsimp only at hSw); go_simp; try with_reducible rfl)
      (try simp only [Act.put, List.setIfInBounds_toArray, List.set_cons_zero, List.set_cons_succ])
      refine wpAnyH_ready (fuel := 4) (rs := [4]) (by kernel_rfl) (by simp) ?_
      refine AllReadyH.cons (o := ?oiC) ?hiC (fun K hK => ?stC) AllReadyH.nil
      case hiC => rw [List.getElem?_toArray]; rfl
      go_simp
      refine (f45 k s r ks vs a (some ⟨b2, p2, none⟩) c d key _ (ArgI.below HA.out c2.drew (Nat.le_refl _)) hkm).mono ?_
      rintro e w3 ⟨rfl, hb3⟩
      have hb3' : Below w2.heap.size w2 w3 := (Below.refl _ _).drew.trans hb3
      have hc3 : ∀ b o, b < w2.heap.size → w3.cell? ⟨b, o, none⟩ = w2.cell? ⟨b, o, none⟩ := fun b o h => hb3'.cell (p := ⟨b, o, none⟩) h
      rw [HAT.out]
      go_wp2_with fail
      refine hK.out _ _ ?hSC (fun hHeld => ?reC)
      case hSC => simp [*]
      clear hK K
      (try simp only [Act.put, List.setIfInBounds_toArray, List.set_cons_zero, List.set_cons_succ])
      refine wpAnyH_take (i := 5) (oi := ?oi5) (v := ?v5) (fuel := 3) ?hi5 ?hs5 ?hf5 ?hr5 ?hq5 (Or.inl ⟨?hw5, ?hy5⟩) hHeld ?rest5
      case hi5 => rw [List.getElem?_toArray]; rfl
      case hq5 => exact fun _ _ _ h => h
      case hs5 => kernel_rfl
      case hf5 => kernel_rfl
      case hr5 => kernel_rfl
      case hw5 => rfl
      case hy5 => (intro w1 hSw; (try dsimp only at hSw); go_simp; try with_reducible rfl)
      (try simp only [Act.put, List.setIfInBounds_toArray, List.set_cons_zero, List.set_cons_succ])
      refine wpAnyH_take (i := 6) (oi := ?oi6) (v := ?v6) (fuel := 2) ?hi6 ?hs6 ?hf6 ?hr6 ?hq6 (Or.inl ⟨?hw6, ?hy6⟩) hHeld ?rest6
      case hi6 => rw [List.getElem?_toArray]; rfl
      case hq6 => exact fun _ _ _ h => h
      case hs6 => kernel_rfl
      case hf6 => kernel_rfl
      case hr6 => kernel_rfl
      case hw6 => rfl
      case hy6 => (intro w1 hSw; (try dsimp only at hSw); go_simp; try with_reducible rfl)
      (try simp only [Act.put, List.setIfInBounds_toArray, List.set_cons_zero, List.set_cons_succ])
      refine wpAnyH_take (i := 7) (oi := ?oi7) (v := ?v7) (fuel := 1) ?hi7 ?hs7 ?hf7 ?hr7 ?hq7 (Or.inl ⟨?hw7, ?hy7⟩) hHeld ?rest7
      case hi7 => rw [List.getElem?_toArray]; rfl
      case hq7 => exact fun _ _ _ h => h
      case hs7 => kernel_rfl
      case hf7 => kernel_rfl
      case hr7 => kernel_rfl
      case hw7 => rfl
      case hy7 => (intro w1 hSw; (try dsimp only at hSw); go_simp; try with_reducible rfl)
      (try simp only [Act.put, List.setIfInBounds_toArray, List.set_cons_zero, List.set_cons_succ])
      refine wpAnyH_take (i := 8) (oi := ?oi8) (v := ?v8) (fuel := 0) ?hi8 ?hs8 ?hf8 ?hr8 ?hq8 (Or.inl ⟨?hw8, ?hy8⟩) hHeld ?rest8
      case hi8 => rw [List.getElem?_toArray]; rfl
      case hq8 => exact fun _ _ _ h => h
      case hs8 => kernel_rfl
      case hf8 => kernel_rfl
      case hr8 => kernel_rfl
      case hw8 => rfl
      case hy8 => (intro w1 hSw; (try dsimp only at hSw); go_simp; try with_reducible rfl)
      (try simp only [Act.put, List.setIfInBounds_toArray, List.set_cons_zero, List.set_cons_succ])
      refine wpAnyH_done (by kernel_rfl) ?_ _
      clear hHeld
      go_wp2_with fail
      go_ret2
      exact ⟨ret_two (x := (x, true)) (by unfold lookT; rw [hok, if_pos rfl]; exact HLK.out.symm), c2.trans (hb3'.mono (by omega))⟩

set_option maxRecDepth 100000 in
set_option maxHeartbeats 4000000 in
theorem f19 (k s r : Int) (ks : List Int) (vs : List ByteArray) (a b : Option Addr) (c d : Nat) (key : Int) (w : World) (hA : ArgI w a ks) (hB : ArgS w b vs) (hc : ks.length ≤ c) (hkm : ks.length ≤ 1048576) (hvm : vs.length ≤ 1048576) :
    Calls Try.prog 13 #[.agg #[.int .i64 k, .int .i64 s, .int .i64 r, .slice a ks.length c, .slice b vs.length d], .int .i64 key] w fun e w' => e = .returned (.tuple #[.string (lookT k s r ks vs key).1, .bool (lookT k s r ks vs key).2]) ∧ Below w.heap.size w w' := by
  have hcA : ∀ X, Below w.heap.size w (w.alloc X) := fun X => (Below.refl _ _).alloc (Nat.le_refl _) _
  have HA : Hid _ := hA
  have HB : Hid _ := hB
  clear hA hB
  cases hok : okB k s r ks vs
  · go_enter Try.func13, Try.ntmps13
    go_wp2_with fail
    refine (f12b k s r ks vs a b c d _ (ArgI.below HA.out (hcA _) (Nat.le_refl _)) (ArgS.below HB.out (hcA _) (Nat.le_refl _)) hc hkm hvm).mono ?_
    rw [hok]
    rintro e w1 ⟨rfl, hb1⟩
    go_wp2_with fail
    go_ret2
    exact ⟨ret_two (x := (⟨#[]⟩, false)) (by unfold lookT; rw [hok]; rfl), (hcA _).trans (hb1.mono (by simp))⟩
  · have hsh := shape2_len (okB_true.1 hok).shape
    have HSH : Hid _ := hsh
    have hk8 : ks.length ≤ 8 := by omega
    clear hsh
    go_enter Try.func13, Try.ntmps13
    go_wp2_with fail
    refine (f12b k s r ks vs a b c d _ (ArgI.below HA.out (hcA _) (Nat.le_refl _)) (ArgS.below HB.out (hcA _) (Nat.le_refl _)) hc hkm hvm).mono ?_
    rw [hok]
    rintro e w1 ⟨rfl, hb1⟩
    obtain ⟨hc1, hf1⟩ := bcell hb1
    have z1 := hb1.size
    simp only [World.size_alloc] at z1
    have x1 : w.heap.size < w1.heap.size := by omega
    have c1 : Below w.heap.size w w1 := (hcA _).trans (hb1.mono (by simp))
    go_wp2_with fail
    refine (f46 k s r ks vs a b c d _ (ArgI.below HA.out c1 (Nat.le_refl _)) (ArgS.below HB.out c1 (Nat.le_refl _)) HSH.out.1 hk8).mono ?_
    rintro e w2 ⟨v, rfl, hown, hb2⟩
    have hpl : (ks.zip vs).length ≤ 1048576 := by simp; omega
    obtain ⟨ps, hps⟩ : ∃ ps, ps = ks.zip vs := ⟨_, rfl⟩
    rw [← hps] at hown hpl
    have HPS : Hid _ := hps
    clear hps
    obtain ⟨a2, cap2, rfl, hP⟩ := own_argP hown
    have HP : Hid _ := hP
    have HPL : Hid _ := hpl
    clear hP hown hpl
    obtain ⟨hc2, hf2⟩ := bcell hb2
    have c2 : Below w.heap.size w w2 := c1.trans (hb2.mono (by omega))
    have z2 := hb2.size
    go_wp2_with fail
    refine (f47 a2 cap2 ps key HPL.out w2 HP.out).mono ?_
    rintro e w3 ⟨rfl, hb3⟩
    go_wp2_with fail
    go_ret2
    exact ⟨ret_two (x := lookP ps key) (by unfold lookT; rw [hok, if_pos rfl, HPS.out]), c2.trans (hb3.mono (by omega))⟩

end Go.Proofs.Ytahbicegmioplaa
