/- The law FnOne, drawn. -/
import Derived.Test.YteiglpijjffneaaYD
namespace Go.Proofs.Yteiglpijjffneaa
open Go.RowKit
set_option linter.unusedVariables false
set_option linter.unusedSimpArgs false

set_option maxRecDepth 100000 in
set_option maxHeartbeats 4000000 in
theorem drawRangeOne_s (w : World) (a : Option Addr) (len cap : Nat) (hc : len ≤ cap) (hs : Src w a len) (hl : cap < 2 ^ 63) :
    Calls Try.prog 15 #[.slice a len cap] w fun e w' => (∃ (y : Int), e = .returned (.int .i64 y) ∧ -1 ≤ y ∧ y ≤ 4294967296) ∧ Below w.heap.size w w' := by
  have HS := hid hs
  clear hs
  go_enter Try.func15, Try.ntmps15
  go_wp2_with fail
  refine (open_s w a len cap hc HS.out hl).mono ?_
  rintro e w1 ⟨n, rfl, h1⟩
  have H1 := hid h1
  clear h1
  go_wp2_with fail
  refine (number_s H1.out (by omega)).mono ?_
  rintro e w2 ⟨x, q, rfl, x0, x1, hq, h2⟩
  have H2 := hid h2
  clear h2
  go_wp2_with fail
  refine (number_s H2.out (by omega)).mono ?_
  rintro e w4 ⟨z, q2, rfl, z0, z1, hq2, h4⟩
  have H4 := hid h4
  clear h4
  go_wp2_with fail
  refine (one_of H4.out (by omega) [x, z, -1, 4294967296] 3 (by simp) (by simp)).mono ?_
  rintro e w5 ⟨y, hy, rfl, h5⟩
  have hy2 : -1 ≤ y ∧ y ≤ 4294967296 := by
    simp only [List.mem_cons, List.not_mem_nil, or_false] at hy
    omega
  have H5 := hid h5
  clear h5 hy
  go_wp2_with fail
  go_ret
  exact ⟨⟨y, rfl, hy2.1, hy2.2⟩, H5.out.bel⟩

theorem mask_zero : maskOf 0 = 0 := by simp [maskOf, bitLen]
theorem tidy_one {n : Nat} (h : n ≤ 4294967295) : tLo n n n = n ∧ tHi n n n 0 = n ∧ tB n n n = n ∧ tO n n 0 = 0 := by
  have hB : tB n n n = n := by
    rw [tB, Nat.xor_self, mask_zero]
    apply Nat.eq_of_testBit_eq
    intro i
    rw [Nat.testBit_or, Nat.testBit_and]
    cases n.testBit i <;> simp
  have hO : tO n n 0 = 0 := by rw [tO]; simp
  refine ⟨by rw [tLo, hB]; omega, by rw [tHi, hB, hO]; simp, hB, hO⟩

structure OneP (n : Nat) : Prop where
  has : AnsB 19 #[rv n n n 0, .int .i64 n] true
  no : ∀ z : Int, z ≠ n → AnsB 19 #[rv n n n 0, .int .i64 z] false
  ok : AnsB 18 #[rv n n n 0] true
  least : AnsI 20 #[rv n n n 0] n
  tidy : AnsV 21 #[rv n n n 0] (rv n n n 0)
theorem one_p {n : Nat} (h : n ≤ 4294967295) : OneP n := by
  have K := one_ok h
  have F := one_of_n h
  have u : ∀ m, OfN n n n 0 m → m = n := fun m hm => by have := hm.lo; have := hm.hi; omega
  have hL := least_cases n n n (0 : Nat)
  refine ⟨ans_has n n n (0 : Nat) n (hasI_of K F), fun z hz => ans_has n n n (0 : Nat) z ?_, ans_ok n n n (0 : Nat) (okB_of K), ?_, fun w => ?_⟩
  · cases hh : hasI n n n (0 : Nat) z
    · rfl
    · obtain ⟨N, rfl, hN⟩ := (hasI_iff K z).1 hh
      have := u N hN
      omega
  · rcases hL with ⟨L, H, B, O, m, hm⟩ | hE
    · have e1 : n = L := by have := hm.e1; omega
      have e2 : n = H := by have := hm.e2; omega
      have e3 : n = B := by have := hm.e3; omega
      have e4 : 0 = O := by have := hm.e4; omega
      have := hm.imp
      have hmm := u m (by have := hm.of; rw [← e1, ← e2, ← e3, ← e4] at this; exact this)
      rw [hmm] at this
      exact this
    · exact (hE.nok K F).elim
  · have := c_RangeTidy n n n 0 w K (some_of K F)
    obtain ⟨t1, t2, t3, t4⟩ := tidy_one h
    rwa [t1, t2, t3, t4] at this

set_option maxRecDepth 100000 in
set_option maxHeartbeats 4000000 in
theorem law_fnOne (w : World) (a : Option Addr) (len cap : Nat) (hc : len ≤ cap) (hs : Src w a len) (hl : cap < 2 ^ 63) :
    Calls Try.prog 4 #[.slice a len cap] w fun e w' => e = .returned (.bool true) ∧ Below w.heap.size w w' := by
  have HS := hid hs
  clear hs
  go_enter Try.func4, Try.ntmps4
  go_wp2_with fail
  · go_ret
    exact ⟨rfl, Below.refl _ _⟩
  refine (drawRangeOne_s w a len cap hc HS.out hl).mono ?_
  rintro e w1 ⟨⟨n, rfl, n0, n1⟩, hb1⟩
  have bel1 := hid hb1
  clear hb1
  go_wp2_with fail
  by_cases hlow : n < 0
  · skip
    have A1 := hid (fun w => c_RangeOne_bad n w (by simp [inB]; omega))
    have A2 := hid (fun w => c_specOne_bad n w (by simp [inB]; omega))
    have A3 := hid (ans_ok 1 0 0 0 okB_none)
    have d1 : decide (n < 0) = true := by simp; omega
    have d2 : decide (0 ≤ n) = false := by simp; omega
    refine (A1.out _).mono ?_
    rintro e w2 ⟨rfl, hb2⟩
    have bel2 := hid (bel1.out.to hb2)
    clear hb2  bel1
    go_wp2_with fail
    have bZ3 := hid (RBox.new w2 (1) (0) (0) (0))
    have bel3 := hid (bel2.out.alloc bel2.out.size (cellsR4 (1) (0) (0) (0)))
    have leZ := bel2.out.size
    clear  bel2
    generalize w2.alloc (cellsR4 (1) (0) (0) (0)) = w3 at *
    generalize w2.heap.size = Z at *
    refine wp_region_held_drew (S := (fun w' => w'.cell? ⟨Z, 0, none⟩ = some (.int .i64 (1)) ∧ w'.cell? ⟨Z, 1, none⟩ = some (.int .i64 (0)) ∧ w'.cell? ⟨Z, 2, none⟩ = some (.int .i64 (0)) ∧ w'.cell? ⟨Z, 3, none⟩ = some (.int .i64 (0)))) (by kernel_rfl) (by exact ⟨(RBox.box bZ3.out).c0, (RBox.box bZ3.out).c1, (RBox.box bZ3.out).c2, (RBox.box bZ3.out).c3⟩) (fun hHeld => ?_)
    have hZ := hid (RBox.drew bZ3.out)
    have hbel := hid (Below.drew bel3.out)
    clear bZ3 bel3
    generalize w3.drew = W1 at *
    refine wpAnyH_take (i := 0) (oi := ?oi33) (v := ?v33) (fuel := 11) ?hi33 ?hs33 ?hf33 ?hr33 ?hq33 (Or.inl ⟨?hw33, ?hy33⟩) hHeld ?rest33
    case hi33 => rw [List.getElem?_toArray]; rfl
    case hq33 => exact fun _ _ _ h => h
    case hs33 | hf33 | hr33 => kernel_rfl
    case hw33 => rfl
    case hy33 => (intro w1 hSw; (try dsimp only at hSw); go_simp; try with_reducible rfl)
    (try simp only [Act.put, List.setIfInBounds_toArray, List.set_cons_zero, List.set_cons_succ])
    refine wpAnyH_take (i := 1) (oi := ?oi34) (v := ?v34) (fuel := 10) ?hi34 ?hs34 ?hf34 ?hr34 ?hq34 (Or.inl ⟨?hw34, ?hy34⟩) hHeld ?rest34
    case hi34 => rw [List.getElem?_toArray]; rfl
    case hq34 => exact fun _ _ _ h => h
    case hs34 | hf34 | hr34 => kernel_rfl
    case hw34 => rfl
    case hy34 => (intro w1 hSw; (try dsimp only at hSw); go_simp; try with_reducible rfl)
    (try simp only [Act.put, List.setIfInBounds_toArray, List.set_cons_zero, List.set_cons_succ])
    refine wpAnyH_ready (fuel := 9) (rs := [2]) (by kernel_rfl) (by simp) ?_
    refine AllReadyH.cons (o := ?oi35) ?hi35 (fun K hK => ?st35) AllReadyH.nil
    case hi35 => rw [List.getElem?_toArray]; rfl
    go_simp
    refine (A2.out _).mono ?_
    rintro ee wr2 ⟨rfl, hbn⟩
    replace hZ := hid (hZ.out.below hbn)
    replace hbel := hid (hbel.out.to hbn)
    clear hbn
    go_wp2_with fail
    refine hK.out _ _ ?hS35 (fun hHeld => ?re35)
    case hS35 => exact ⟨(RBox.box hZ.out).c0, (RBox.box hZ.out).c1, (RBox.box hZ.out).c2, (RBox.box hZ.out).c3⟩
    clear hK K
    (try simp only [Act.put, List.setIfInBounds_toArray, List.set_cons_zero, List.set_cons_succ])
    refine wpAnyH_take (i := 3) (oi := ?oi36) (v := ?v36) (fuel := 8) ?hi36 ?hs36 ?hf36 ?hr36 ?hq36 (Or.inl ⟨?hw36, ?hy36⟩) hHeld ?rest36
    case hi36 => rw [List.getElem?_toArray]; rfl
    case hq36 => exact fun _ _ _ h => h
    case hs36 | hf36 | hr36 => kernel_rfl
    case hw36 => rfl
    case hy36 => (intro w1 hSw; (try dsimp only at hSw); go_simp; try with_reducible rfl)
    (try simp only [Act.put, List.setIfInBounds_toArray, List.set_cons_zero, List.set_cons_succ])
    refine wpAnyH_take (i := 4) (oi := ?oi37) (v := ?v37) (fuel := 7) ?hi37 ?hs37 ?hf37 ?hr37 ?hq37 (Or.inl ⟨?hw37, ?hy37⟩) hHeld ?rest37
    case hi37 => rw [List.getElem?_toArray]; rfl
    case hq37 => exact fun _ _ _ h => h
    case hs37 | hf37 | hr37 => kernel_rfl
    case hw37 => rfl
    case hy37 => (intro w1 hSw; (try dsimp only at hSw); go_simp; try with_reducible rfl)
    (try simp only [Act.put, List.setIfInBounds_toArray, List.set_cons_zero, List.set_cons_succ])
    refine wpAnyH_take (i := 5) (oi := ?oi38) (v := ?v38) (fuel := 6) ?hi38 ?hs38 ?hf38 ?hr38 ?hq38 (Or.inl ⟨?hw38, ?hy38⟩) hHeld ?rest38
    case hi38 => rw [List.getElem?_toArray]; rfl
    case hq38 => exact fun _ _ _ h => h
    case hs38 | hf38 | hr38 => kernel_rfl
    case hw38 => rfl
    case hy38 => (intro w1 hSw; (try dsimp only at hSw); go_simp; try with_reducible rfl)
    (try simp only [Act.put, List.setIfInBounds_toArray, List.set_cons_zero, List.set_cons_succ])
    refine wpAnyH_take (i := 6) (oi := ?oi39) (v := .bool true) (fuel := 5) ?hi39 ?hs39 ?hf39 ?hr39 ?hq39 (Or.inl ⟨?hw39, ?hy39⟩) hHeld ?rest39
    case hi39 => rw [List.getElem?_toArray]; rfl
    case hq39 => exact fun _ _ _ h => h
    case hs39 | hf39 | hr39 => kernel_rfl
    case hw39 => rfl
    case hy39 => (intro w1 hSw; (try dsimp only at hSw); go_simp; try simp [d1])
    (try simp only [Act.put, List.setIfInBounds_toArray, List.set_cons_zero, List.set_cons_succ])
    refine wpAnyH_take (i := 7) (oi := ?oi40) (v := ?v40) (fuel := 4) ?hi40 ?hs40 ?hf40 ?hr40 ?hq40 (Or.inl ⟨?hw40, ?hy40⟩) hHeld ?rest40
    case hi40 => rw [List.getElem?_toArray]; rfl
    case hq40 => exact fun _ _ _ h => h
    case hs40 | hf40 | hr40 => kernel_rfl
    case hw40 => rfl
    case hy40 => (intro w1 hSw; (try dsimp only at hSw); go_simp; try with_reducible rfl)
    (try simp only [Act.put, List.setIfInBounds_toArray, List.set_cons_zero, List.set_cons_succ])
    refine wpAnyH_take (i := 8) (oi := ?oi41) (v := ?v41) (fuel := 3) ?hi41 ?hs41 ?hf41 ?hr41 ?hq41 (Or.inl ⟨?hw41, ?hy41⟩) hHeld ?rest41
    case hi41 => rw [List.getElem?_toArray]; rfl
    case hq41 => exact fun _ _ _ h => h
    case hs41 | hf41 | hr41 => kernel_rfl
    case hw41 => rfl
    case hy41 => (intro w1 hSw; (try dsimp only at hSw); go_simp; try with_reducible rfl)
    (try simp only [Act.put, List.setIfInBounds_toArray, List.set_cons_zero, List.set_cons_succ])
    refine wpAnyH_take (i := 9) (oi := ?oi42) (v := undef) (fuel := 2) ?hi42 ?hs42 ?hf42 ?hr42 ?hq42 (Or.inr ⟨?hw42, rfl⟩) hHeld ?rest42
    case hi42 => rw [List.getElem?_toArray]; rfl
    case hq42 => exact fun _ _ _ h => h
    case hs42 | hf42 | hr42 => kernel_rfl
    case hw42 => rfl
    (try simp only [Act.put, List.setIfInBounds_toArray, List.set_cons_zero, List.set_cons_succ])
    refine wpAnyH_take (i := 10) (oi := ?oi43) (v := undef) (fuel := 1) ?hi43 ?hs43 ?hf43 ?hr43 ?hq43 (Or.inr ⟨?hw43, rfl⟩) hHeld ?rest43
    case hi43 => rw [List.getElem?_toArray]; rfl
    case hq43 => exact fun _ _ _ h => h
    case hs43 | hf43 | hr43 => kernel_rfl
    case hw43 => rfl
    (try simp only [Act.put, List.setIfInBounds_toArray, List.set_cons_zero, List.set_cons_succ])
    refine wpAnyH_take (i := 11) (oi := ?oi44) (v := ?v44) (fuel := 0) ?hi44 ?hs44 ?hf44 ?hr44 ?hq44 (Or.inl ⟨?hw44, ?hy44⟩) hHeld ?rest44
    case hi44 => rw [List.getElem?_toArray]; rfl
    case hq44 => exact fun _ _ _ h => h
    case hs44 | hf44 | hr44 => kernel_rfl
    case hw44 => rfl
    case hy44 => (intro w1 hSw; (try dsimp only at hSw); go_simp; try with_reducible rfl)
    (try simp only [Act.put, List.setIfInBounds_toArray, List.set_cons_zero, List.set_cons_succ])
    refine wpAnyH_done (by kernel_rfl) ?_ _
    clear hHeld
    generalize wr2 = w4 at *
    have bZ4 := hZ
    have bel4 := hbel
    clear hbel hZ
    go_wp2_with fail
    refine wp_region_held_drew (S := (fun w' => w'.cell? ⟨Z, 0, none⟩ = some (.int .i64 (1)) ∧ w'.cell? ⟨Z, 1, none⟩ = some (.int .i64 (0)) ∧ w'.cell? ⟨Z, 2, none⟩ = some (.int .i64 (0)) ∧ w'.cell? ⟨Z, 3, none⟩ = some (.int .i64 (0)))) (by kernel_rfl) (by exact ⟨(RBox.box bZ4.out).c0, (RBox.box bZ4.out).c1, (RBox.box bZ4.out).c2, (RBox.box bZ4.out).c3⟩) (fun hHeld => ?_)
    have hZ := hid (RBox.drew bZ4.out)
    have hbel := hid (Below.drew bel4.out)
    clear bZ4 bel4
    generalize w4.drew = W1 at *
    refine wpAnyH_take (i := 0) (oi := ?oi45) (v := ?v45) (fuel := 17) ?hi45 ?hs45 ?hf45 ?hr45 ?hq45 (Or.inl ⟨?hw45, ?hy45⟩) hHeld ?rest45
    case hi45 => rw [List.getElem?_toArray]; rfl
    case hq45 => exact fun _ _ _ h => h
    case hs45 | hf45 | hr45 => kernel_rfl
    case hw45 => rfl
    case hy45 => (intro w1 hSw; (try dsimp only at hSw); go_simp; try with_reducible rfl)
    (try simp only [Act.put, List.setIfInBounds_toArray, List.set_cons_zero, List.set_cons_succ])
    refine wpAnyH_take (i := 1) (oi := ?oi46) (v := ?v46) (fuel := 16) ?hi46 ?hs46 ?hf46 ?hr46 ?hq46 (Or.inl ⟨?hw46, ?hy46⟩) hHeld ?rest46
    case hi46 => rw [List.getElem?_toArray]; rfl
    case hq46 => exact fun _ _ _ h => h
    case hs46 | hf46 | hr46 => kernel_rfl
    case hw46 => rfl
    case hy46 => (intro w1 hSw; (try dsimp only at hSw); go_simp; try with_reducible rfl)
    (try simp only [Act.put, List.setIfInBounds_toArray, List.set_cons_zero, List.set_cons_succ])
    refine wpAnyH_ready (fuel := 15) (rs := [2]) (by kernel_rfl) (by simp) ?_
    refine AllReadyH.cons (o := ?oi47) ?hi47 (fun K hK => ?st47) AllReadyH.nil
    case hi47 => rw [List.getElem?_toArray]; rfl
    go_simp
    refine (A2.out _).mono ?_
    rintro ee wr2 ⟨rfl, hbn⟩
    replace hZ := hid (hZ.out.below hbn)
    replace hbel := hid (hbel.out.to hbn)
    clear hbn
    go_wp2_with fail
    refine hK.out _ _ ?hS47 (fun hHeld => ?re47)
    case hS47 => exact ⟨(RBox.box hZ.out).c0, (RBox.box hZ.out).c1, (RBox.box hZ.out).c2, (RBox.box hZ.out).c3⟩
    clear hK K
    (try simp only [Act.put, List.setIfInBounds_toArray, List.set_cons_zero, List.set_cons_succ])
    refine wpAnyH_take (i := 3) (oi := ?oi48) (v := ?v48) (fuel := 14) ?hi48 ?hs48 ?hf48 ?hr48 ?hq48 (Or.inl ⟨?hw48, ?hy48⟩) hHeld ?rest48
    case hi48 => rw [List.getElem?_toArray]; rfl
    case hq48 => exact fun _ _ _ h => h
    case hs48 | hf48 | hr48 => kernel_rfl
    case hw48 => rfl
    case hy48 => (intro w1 hSw; (try dsimp only at hSw); go_simp; try with_reducible rfl)
    (try simp only [Act.put, List.setIfInBounds_toArray, List.set_cons_zero, List.set_cons_succ])
    refine wpAnyH_take (i := 4) (oi := ?oi49) (v := ?v49) (fuel := 13) ?hi49 ?hs49 ?hf49 ?hr49 ?hq49 (Or.inl ⟨?hw49, ?hy49⟩) hHeld ?rest49
    case hi49 => rw [List.getElem?_toArray]; rfl
    case hq49 => exact fun _ _ _ h => h
    case hs49 | hf49 | hr49 => kernel_rfl
    case hw49 => rfl
    case hy49 => (intro w1 hSw; (try dsimp only at hSw); go_simp; try with_reducible rfl)
    (try simp only [Act.put, List.setIfInBounds_toArray, List.set_cons_zero, List.set_cons_succ])
    refine wpAnyH_take (i := 5) (oi := ?oi50) (v := ?v50) (fuel := 12) ?hi50 ?hs50 ?hf50 ?hr50 ?hq50 (Or.inl ⟨?hw50, ?hy50⟩) hHeld ?rest50
    case hi50 => rw [List.getElem?_toArray]; rfl
    case hq50 => exact fun _ _ _ h => h
    case hs50 | hf50 | hr50 => kernel_rfl
    case hw50 => rfl
    case hy50 => (intro w1 hSw; (try dsimp only at hSw); go_simp; try with_reducible rfl)
    (try simp only [Act.put, List.setIfInBounds_toArray, List.set_cons_zero, List.set_cons_succ])
    refine wpAnyH_take (i := 6) (oi := ?oi51) (v := .bool false) (fuel := 11) ?hi51 ?hs51 ?hf51 ?hr51 ?hq51 (Or.inl ⟨?hw51, ?hy51⟩) hHeld ?rest51
    case hi51 => rw [List.getElem?_toArray]; rfl
    case hq51 => exact fun _ _ _ h => h
    case hs51 | hf51 | hr51 => kernel_rfl
    case hw51 => rfl
    case hy51 => (intro w1 hSw; (try dsimp only at hSw); go_simp; try simp [d2])
    (try simp only [Act.put, List.setIfInBounds_toArray, List.set_cons_zero, List.set_cons_succ])
    refine wpAnyH_take (i := 7) (oi := ?oi52) (v := ?v52) (fuel := 10) ?hi52 ?hs52 ?hf52 ?hr52 ?hq52 (Or.inl ⟨?hw52, ?hy52⟩) hHeld ?rest52
    case hi52 => rw [List.getElem?_toArray]; rfl
    case hq52 => exact fun _ _ _ h => h
    case hs52 | hf52 | hr52 => kernel_rfl
    case hw52 => rfl
    case hy52 => (intro w1 hSw; (try dsimp only at hSw); go_simp; try with_reducible rfl)
    (try simp only [Act.put, List.setIfInBounds_toArray, List.set_cons_zero, List.set_cons_succ])
    refine wpAnyH_take (i := 8) (oi := ?oi53) (v := undef) (fuel := 9) ?hi53 ?hs53 ?hf53 ?hr53 ?hq53 (Or.inr ⟨?hw53, rfl⟩) hHeld ?rest53
    case hi53 => rw [List.getElem?_toArray]; rfl
    case hq53 => exact fun _ _ _ h => h
    case hs53 | hf53 | hr53 => kernel_rfl
    case hw53 => rfl
    (try simp only [Act.put, List.setIfInBounds_toArray, List.set_cons_zero, List.set_cons_succ])
    refine wpAnyH_take (i := 9) (oi := ?oi54) (v := undef) (fuel := 8) ?hi54 ?hs54 ?hf54 ?hr54 ?hq54 (Or.inr ⟨?hw54, rfl⟩) hHeld ?rest54
    case hi54 => rw [List.getElem?_toArray]; rfl
    case hq54 => exact fun _ _ _ h => h
    case hs54 | hf54 | hr54 => kernel_rfl
    case hw54 => rfl
    (try simp only [Act.put, List.setIfInBounds_toArray, List.set_cons_zero, List.set_cons_succ])
    refine wpAnyH_take (i := 10) (oi := ?oi55) (v := ?v55) (fuel := 7) ?hi55 ?hs55 ?hf55 ?hr55 ?hq55 (Or.inl ⟨?hw55, ?hy55⟩) hHeld ?rest55
    case hi55 => rw [List.getElem?_toArray]; rfl
    case hq55 => exact fun _ _ _ h => h
    case hs55 | hf55 | hr55 => kernel_rfl
    case hw55 => rfl
    case hy55 => (intro w1 hSw; (try dsimp only at hSw); go_simp; try with_reducible rfl)
    (try simp only [Act.put, List.setIfInBounds_toArray, List.set_cons_zero, List.set_cons_succ])
    refine wpAnyH_take (i := 11) (oi := ?oi56) (v := ?v56) (fuel := 6) ?hi56 ?hs56 ?hf56 ?hr56 ?hq56 (Or.inl ⟨?hw56, ?hy56⟩) hHeld ?rest56
    case hi56 => rw [List.getElem?_toArray]; rfl
    case hq56 => exact fun _ _ _ h => h
    case hs56 | hf56 | hr56 => kernel_rfl
    case hw56 => rfl
    case hy56 => (intro w1 hSw; (try dsimp only at hSw); go_simp; try with_reducible rfl)
    (try simp only [Act.put, List.setIfInBounds_toArray, List.set_cons_zero, List.set_cons_succ])
    refine wpAnyH_take (i := 12) (oi := ?oi57) (v := ?v57) (fuel := 5) ?hi57 ?hs57 ?hf57 ?hr57 ?hq57 (Or.inl ⟨?hw57, ?hy57⟩) hHeld ?rest57
    case hi57 => rw [List.getElem?_toArray]; rfl
    case hq57 => exact fun _ _ _ h => h
    case hs57 | hf57 | hr57 => kernel_rfl
    case hw57 => rfl
    case hy57 => (intro w1 hSw; (try dsimp only at hSw); go_simp; try with_reducible rfl)
    (try simp only [Act.put, List.setIfInBounds_toArray, List.set_cons_zero, List.set_cons_succ])
    refine wpAnyH_ready (fuel := 4) (rs := [13]) (by kernel_rfl) (by simp) ?_
    refine AllReadyH.cons (o := ?oi58) ?hi58 (fun K hK => ?st58) AllReadyH.nil
    case hi58 => rw [List.getElem?_toArray]; rfl
    go_simp
    refine (A3.out _).mono ?_
    rintro ee wr13 ⟨rfl, hbn⟩
    replace hZ := hid (hZ.out.below hbn)
    replace hbel := hid (hbel.out.to hbn)
    clear hbn
    go_wp2_with fail
    refine hK.out _ _ ?hS58 (fun hHeld => ?re58)
    case hS58 => exact ⟨(RBox.box hZ.out).c0, (RBox.box hZ.out).c1, (RBox.box hZ.out).c2, (RBox.box hZ.out).c3⟩
    clear hK K
    (try simp only [Act.put, List.setIfInBounds_toArray, List.set_cons_zero, List.set_cons_succ])
    refine wpAnyH_take (i := 14) (oi := ?oi59) (v := ?v59) (fuel := 3) ?hi59 ?hs59 ?hf59 ?hr59 ?hq59 (Or.inl ⟨?hw59, ?hy59⟩) hHeld ?rest59
    case hi59 => rw [List.getElem?_toArray]; rfl
    case hq59 => exact fun _ _ _ h => h
    case hs59 | hf59 | hr59 => kernel_rfl
    case hw59 => rfl
    case hy59 => (intro w1 hSw; (try dsimp only at hSw); go_simp; try with_reducible rfl)
    (try simp only [Act.put, List.setIfInBounds_toArray, List.set_cons_zero, List.set_cons_succ])
    refine wpAnyH_take (i := 15) (oi := ?oi60) (v := ?v60) (fuel := 2) ?hi60 ?hs60 ?hf60 ?hr60 ?hq60 (Or.inl ⟨?hw60, ?hy60⟩) hHeld ?rest60
    case hi60 => rw [List.getElem?_toArray]; rfl
    case hq60 => exact fun _ _ _ h => h
    case hs60 | hf60 | hr60 => kernel_rfl
    case hw60 => rfl
    case hy60 => (intro w1 hSw; (try dsimp only at hSw); go_simp; try with_reducible rfl)
    (try simp only [Act.put, List.setIfInBounds_toArray, List.set_cons_zero, List.set_cons_succ])
    refine wpAnyH_take (i := 16) (oi := ?oi61) (v := ?v61) (fuel := 1) ?hi61 ?hs61 ?hf61 ?hr61 ?hq61 (Or.inl ⟨?hw61, ?hy61⟩) hHeld ?rest61
    case hi61 => rw [List.getElem?_toArray]; rfl
    case hq61 => exact fun _ _ _ h => h
    case hs61 | hf61 | hr61 => kernel_rfl
    case hw61 => rfl
    case hy61 => (intro w1 hSw; (try dsimp only at hSw); go_simp; try with_reducible rfl)
    (try simp only [Act.put, List.setIfInBounds_toArray, List.set_cons_zero, List.set_cons_succ])
    refine wpAnyH_take (i := 17) (oi := ?oi62) (v := ?v62) (fuel := 0) ?hi62 ?hs62 ?hf62 ?hr62 ?hq62 (Or.inl ⟨?hw62, ?hy62⟩) hHeld ?rest62
    case hi62 => rw [List.getElem?_toArray]; rfl
    case hq62 => exact fun _ _ _ h => h
    case hs62 | hf62 | hr62 => kernel_rfl
    case hw62 => rfl
    case hy62 => (intro w1 hSw; (try dsimp only at hSw); go_simp; try with_reducible rfl)
    (try simp only [Act.put, List.setIfInBounds_toArray, List.set_cons_zero, List.set_cons_succ])
    refine wpAnyH_done (by kernel_rfl) ?_ _
    clear hHeld
    generalize wr13 = w5 at *
    have bZ5 := hZ
    have bel5 := hbel
    clear hbel hZ
    go_wp2_with fail
    go_ret
    exact ⟨rfl, bel5.out⟩
  by_cases hhigh : 4294967295 < n
  · skip
    have A1 := hid (fun w => c_RangeOne_bad n w (by simp [inB]; omega))
    have A2 := hid (fun w => c_specOne_bad n w (by simp [inB]; omega))
    have A3 := hid (ans_ok 1 0 0 0 okB_none)
    have d1 : decide (n < 0) = false := by simp; omega
    have d2 : decide (0 ≤ n) = true := by simp; omega
    have d3 : decide (4294967295 < n) = true := by simp; omega
    have d4 : decide (n ≤ 4294967295) = false := by simp; omega
    refine (A1.out _).mono ?_
    rintro e w2 ⟨rfl, hb2⟩
    have bel2 := hid (bel1.out.to hb2)
    clear hb2  bel1
    go_wp2_with fail
    have bZ3 := hid (RBox.new w2 (1) (0) (0) (0))
    have bel3 := hid (bel2.out.alloc bel2.out.size (cellsR4 (1) (0) (0) (0)))
    have leZ := bel2.out.size
    clear  bel2
    generalize w2.alloc (cellsR4 (1) (0) (0) (0)) = w3 at *
    generalize w2.heap.size = Z at *
    refine wp_region_held_drew (S := (fun w' => w'.cell? ⟨Z, 0, none⟩ = some (.int .i64 (1)) ∧ w'.cell? ⟨Z, 1, none⟩ = some (.int .i64 (0)) ∧ w'.cell? ⟨Z, 2, none⟩ = some (.int .i64 (0)) ∧ w'.cell? ⟨Z, 3, none⟩ = some (.int .i64 (0)))) (by kernel_rfl) (by exact ⟨(RBox.box bZ3.out).c0, (RBox.box bZ3.out).c1, (RBox.box bZ3.out).c2, (RBox.box bZ3.out).c3⟩) (fun hHeld => ?_)
    have hZ := hid (RBox.drew bZ3.out)
    have hbel := hid (Below.drew bel3.out)
    clear bZ3 bel3
    generalize w3.drew = W1 at *
    refine wpAnyH_take (i := 0) (oi := ?oi63) (v := ?v63) (fuel := 11) ?hi63 ?hs63 ?hf63 ?hr63 ?hq63 (Or.inl ⟨?hw63, ?hy63⟩) hHeld ?rest63
    case hi63 => rw [List.getElem?_toArray]; rfl
    case hq63 => exact fun _ _ _ h => h
    case hs63 | hf63 | hr63 => kernel_rfl
    case hw63 => rfl
    case hy63 => (intro w1 hSw; (try dsimp only at hSw); go_simp; try with_reducible rfl)
    (try simp only [Act.put, List.setIfInBounds_toArray, List.set_cons_zero, List.set_cons_succ])
    refine wpAnyH_take (i := 1) (oi := ?oi64) (v := ?v64) (fuel := 10) ?hi64 ?hs64 ?hf64 ?hr64 ?hq64 (Or.inl ⟨?hw64, ?hy64⟩) hHeld ?rest64
    case hi64 => rw [List.getElem?_toArray]; rfl
    case hq64 => exact fun _ _ _ h => h
    case hs64 | hf64 | hr64 => kernel_rfl
    case hw64 => rfl
    case hy64 => (intro w1 hSw; (try dsimp only at hSw); go_simp; try with_reducible rfl)
    (try simp only [Act.put, List.setIfInBounds_toArray, List.set_cons_zero, List.set_cons_succ])
    refine wpAnyH_ready (fuel := 9) (rs := [2]) (by kernel_rfl) (by simp) ?_
    refine AllReadyH.cons (o := ?oi65) ?hi65 (fun K hK => ?st65) AllReadyH.nil
    case hi65 => rw [List.getElem?_toArray]; rfl
    go_simp
    refine (A2.out _).mono ?_
    rintro ee wr2 ⟨rfl, hbn⟩
    replace hZ := hid (hZ.out.below hbn)
    replace hbel := hid (hbel.out.to hbn)
    clear hbn
    go_wp2_with fail
    refine hK.out _ _ ?hS65 (fun hHeld => ?re65)
    case hS65 => exact ⟨(RBox.box hZ.out).c0, (RBox.box hZ.out).c1, (RBox.box hZ.out).c2, (RBox.box hZ.out).c3⟩
    clear hK K
    (try simp only [Act.put, List.setIfInBounds_toArray, List.set_cons_zero, List.set_cons_succ])
    refine wpAnyH_take (i := 3) (oi := ?oi66) (v := ?v66) (fuel := 8) ?hi66 ?hs66 ?hf66 ?hr66 ?hq66 (Or.inl ⟨?hw66, ?hy66⟩) hHeld ?rest66
    case hi66 => rw [List.getElem?_toArray]; rfl
    case hq66 => exact fun _ _ _ h => h
    case hs66 | hf66 | hr66 => kernel_rfl
    case hw66 => rfl
    case hy66 => (intro w1 hSw; (try dsimp only at hSw); go_simp; try with_reducible rfl)
    (try simp only [Act.put, List.setIfInBounds_toArray, List.set_cons_zero, List.set_cons_succ])
    refine wpAnyH_take (i := 4) (oi := ?oi67) (v := ?v67) (fuel := 7) ?hi67 ?hs67 ?hf67 ?hr67 ?hq67 (Or.inl ⟨?hw67, ?hy67⟩) hHeld ?rest67
    case hi67 => rw [List.getElem?_toArray]; rfl
    case hq67 => exact fun _ _ _ h => h
    case hs67 | hf67 | hr67 => kernel_rfl
    case hw67 => rfl
    case hy67 => (intro w1 hSw; (try dsimp only at hSw); go_simp; try with_reducible rfl)
    (try simp only [Act.put, List.setIfInBounds_toArray, List.set_cons_zero, List.set_cons_succ])
    refine wpAnyH_take (i := 5) (oi := ?oi68) (v := ?v68) (fuel := 6) ?hi68 ?hs68 ?hf68 ?hr68 ?hq68 (Or.inl ⟨?hw68, ?hy68⟩) hHeld ?rest68
    case hi68 => rw [List.getElem?_toArray]; rfl
    case hq68 => exact fun _ _ _ h => h
    case hs68 | hf68 | hr68 => kernel_rfl
    case hw68 => rfl
    case hy68 => (intro w1 hSw; (try dsimp only at hSw); go_simp; try with_reducible rfl)
    (try simp only [Act.put, List.setIfInBounds_toArray, List.set_cons_zero, List.set_cons_succ])
    refine wpAnyH_take (i := 6) (oi := ?oi69) (v := .bool false) (fuel := 5) ?hi69 ?hs69 ?hf69 ?hr69 ?hq69 (Or.inl ⟨?hw69, ?hy69⟩) hHeld ?rest69
    case hi69 => rw [List.getElem?_toArray]; rfl
    case hq69 => exact fun _ _ _ h => h
    case hs69 | hf69 | hr69 => kernel_rfl
    case hw69 => rfl
    case hy69 => (intro w1 hSw; (try dsimp only at hSw); go_simp; try simp [d1])
    (try simp only [Act.put, List.setIfInBounds_toArray, List.set_cons_zero, List.set_cons_succ])
    refine wpAnyH_take (i := 7) (oi := ?oi70) (v := ?v70) (fuel := 4) ?hi70 ?hs70 ?hf70 ?hr70 ?hq70 (Or.inl ⟨?hw70, ?hy70⟩) hHeld ?rest70
    case hi70 => rw [List.getElem?_toArray]; rfl
    case hq70 => exact fun _ _ _ h => h
    case hs70 | hf70 | hr70 => kernel_rfl
    case hw70 => rfl
    case hy70 => (intro w1 hSw; (try dsimp only at hSw); go_simp; try with_reducible rfl)
    (try simp only [Act.put, List.setIfInBounds_toArray, List.set_cons_zero, List.set_cons_succ])
    refine wpAnyH_take (i := 8) (oi := ?oi71) (v := ?v71) (fuel := 3) ?hi71 ?hs71 ?hf71 ?hr71 ?hq71 (Or.inl ⟨?hw71, ?hy71⟩) hHeld ?rest71
    case hi71 => rw [List.getElem?_toArray]; rfl
    case hq71 => exact fun _ _ _ h => h
    case hs71 | hf71 | hr71 => kernel_rfl
    case hw71 => rfl
    case hy71 => (intro w1 hSw; (try dsimp only at hSw); go_simp; try with_reducible rfl)
    (try simp only [Act.put, List.setIfInBounds_toArray, List.set_cons_zero, List.set_cons_succ])
    refine wpAnyH_take (i := 9) (oi := ?oi72) (v := ?v72) (fuel := 2) ?hi72 ?hs72 ?hf72 ?hr72 ?hq72 (Or.inl ⟨?hw72, ?hy72⟩) hHeld ?rest72
    case hi72 => rw [List.getElem?_toArray]; rfl
    case hq72 => exact fun _ _ _ h => h
    case hs72 | hf72 | hr72 => kernel_rfl
    case hw72 => rfl
    case hy72 => (intro w1 hSw; (try dsimp only at hSw); go_simp; try with_reducible rfl)
    (try simp only [Act.put, List.setIfInBounds_toArray, List.set_cons_zero, List.set_cons_succ])
    refine wpAnyH_take (i := 10) (oi := ?oi73) (v := .bool true) (fuel := 1) ?hi73 ?hs73 ?hf73 ?hr73 ?hq73 (Or.inl ⟨?hw73, ?hy73⟩) hHeld ?rest73
    case hi73 => rw [List.getElem?_toArray]; rfl
    case hq73 => exact fun _ _ _ h => h
    case hs73 | hf73 | hr73 => kernel_rfl
    case hw73 => rfl
    case hy73 => (intro w1 hSw; (try dsimp only at hSw); go_simp; try simp [d3])
    (try simp only [Act.put, List.setIfInBounds_toArray, List.set_cons_zero, List.set_cons_succ])
    refine wpAnyH_take (i := 11) (oi := ?oi74) (v := ?v74) (fuel := 0) ?hi74 ?hs74 ?hf74 ?hr74 ?hq74 (Or.inl ⟨?hw74, ?hy74⟩) hHeld ?rest74
    case hi74 => rw [List.getElem?_toArray]; rfl
    case hq74 => exact fun _ _ _ h => h
    case hs74 | hf74 | hr74 => kernel_rfl
    case hw74 => rfl
    case hy74 => (intro w1 hSw; (try dsimp only at hSw); go_simp; try with_reducible rfl)
    (try simp only [Act.put, List.setIfInBounds_toArray, List.set_cons_zero, List.set_cons_succ])
    refine wpAnyH_done (by kernel_rfl) ?_ _
    clear hHeld
    generalize wr2 = w4 at *
    have bZ4 := hZ
    have bel4 := hbel
    clear hbel hZ
    go_wp2_with fail
    refine wp_region_held_drew (S := (fun w' => w'.cell? ⟨Z, 0, none⟩ = some (.int .i64 (1)) ∧ w'.cell? ⟨Z, 1, none⟩ = some (.int .i64 (0)) ∧ w'.cell? ⟨Z, 2, none⟩ = some (.int .i64 (0)) ∧ w'.cell? ⟨Z, 3, none⟩ = some (.int .i64 (0)))) (by kernel_rfl) (by exact ⟨(RBox.box bZ4.out).c0, (RBox.box bZ4.out).c1, (RBox.box bZ4.out).c2, (RBox.box bZ4.out).c3⟩) (fun hHeld => ?_)
    have hZ := hid (RBox.drew bZ4.out)
    have hbel := hid (Below.drew bel4.out)
    clear bZ4 bel4
    generalize w4.drew = W1 at *
    refine wpAnyH_take (i := 0) (oi := ?oi75) (v := ?v75) (fuel := 17) ?hi75 ?hs75 ?hf75 ?hr75 ?hq75 (Or.inl ⟨?hw75, ?hy75⟩) hHeld ?rest75
    case hi75 => rw [List.getElem?_toArray]; rfl
    case hq75 => exact fun _ _ _ h => h
    case hs75 | hf75 | hr75 => kernel_rfl
    case hw75 => rfl
    case hy75 => (intro w1 hSw; (try dsimp only at hSw); go_simp; try with_reducible rfl)
    (try simp only [Act.put, List.setIfInBounds_toArray, List.set_cons_zero, List.set_cons_succ])
    refine wpAnyH_take (i := 1) (oi := ?oi76) (v := ?v76) (fuel := 16) ?hi76 ?hs76 ?hf76 ?hr76 ?hq76 (Or.inl ⟨?hw76, ?hy76⟩) hHeld ?rest76
    case hi76 => rw [List.getElem?_toArray]; rfl
    case hq76 => exact fun _ _ _ h => h
    case hs76 | hf76 | hr76 => kernel_rfl
    case hw76 => rfl
    case hy76 => (intro w1 hSw; (try dsimp only at hSw); go_simp; try with_reducible rfl)
    (try simp only [Act.put, List.setIfInBounds_toArray, List.set_cons_zero, List.set_cons_succ])
    refine wpAnyH_ready (fuel := 15) (rs := [2]) (by kernel_rfl) (by simp) ?_
    refine AllReadyH.cons (o := ?oi77) ?hi77 (fun K hK => ?st77) AllReadyH.nil
    case hi77 => rw [List.getElem?_toArray]; rfl
    go_simp
    refine (A2.out _).mono ?_
    rintro ee wr2 ⟨rfl, hbn⟩
    replace hZ := hid (hZ.out.below hbn)
    replace hbel := hid (hbel.out.to hbn)
    clear hbn
    go_wp2_with fail
    refine hK.out _ _ ?hS77 (fun hHeld => ?re77)
    case hS77 => exact ⟨(RBox.box hZ.out).c0, (RBox.box hZ.out).c1, (RBox.box hZ.out).c2, (RBox.box hZ.out).c3⟩
    clear hK K
    (try simp only [Act.put, List.setIfInBounds_toArray, List.set_cons_zero, List.set_cons_succ])
    refine wpAnyH_take (i := 3) (oi := ?oi78) (v := ?v78) (fuel := 14) ?hi78 ?hs78 ?hf78 ?hr78 ?hq78 (Or.inl ⟨?hw78, ?hy78⟩) hHeld ?rest78
    case hi78 => rw [List.getElem?_toArray]; rfl
    case hq78 => exact fun _ _ _ h => h
    case hs78 | hf78 | hr78 => kernel_rfl
    case hw78 => rfl
    case hy78 => (intro w1 hSw; (try dsimp only at hSw); go_simp; try with_reducible rfl)
    (try simp only [Act.put, List.setIfInBounds_toArray, List.set_cons_zero, List.set_cons_succ])
    refine wpAnyH_take (i := 4) (oi := ?oi79) (v := ?v79) (fuel := 13) ?hi79 ?hs79 ?hf79 ?hr79 ?hq79 (Or.inl ⟨?hw79, ?hy79⟩) hHeld ?rest79
    case hi79 => rw [List.getElem?_toArray]; rfl
    case hq79 => exact fun _ _ _ h => h
    case hs79 | hf79 | hr79 => kernel_rfl
    case hw79 => rfl
    case hy79 => (intro w1 hSw; (try dsimp only at hSw); go_simp; try with_reducible rfl)
    (try simp only [Act.put, List.setIfInBounds_toArray, List.set_cons_zero, List.set_cons_succ])
    refine wpAnyH_take (i := 5) (oi := ?oi80) (v := ?v80) (fuel := 12) ?hi80 ?hs80 ?hf80 ?hr80 ?hq80 (Or.inl ⟨?hw80, ?hy80⟩) hHeld ?rest80
    case hi80 => rw [List.getElem?_toArray]; rfl
    case hq80 => exact fun _ _ _ h => h
    case hs80 | hf80 | hr80 => kernel_rfl
    case hw80 => rfl
    case hy80 => (intro w1 hSw; (try dsimp only at hSw); go_simp; try with_reducible rfl)
    (try simp only [Act.put, List.setIfInBounds_toArray, List.set_cons_zero, List.set_cons_succ])
    refine wpAnyH_take (i := 6) (oi := ?oi81) (v := .bool true) (fuel := 11) ?hi81 ?hs81 ?hf81 ?hr81 ?hq81 (Or.inl ⟨?hw81, ?hy81⟩) hHeld ?rest81
    case hi81 => rw [List.getElem?_toArray]; rfl
    case hq81 => exact fun _ _ _ h => h
    case hs81 | hf81 | hr81 => kernel_rfl
    case hw81 => rfl
    case hy81 => (intro w1 hSw; (try dsimp only at hSw); go_simp; try simp [d2])
    (try simp only [Act.put, List.setIfInBounds_toArray, List.set_cons_zero, List.set_cons_succ])
    refine wpAnyH_take (i := 7) (oi := ?oi82) (v := ?v82) (fuel := 10) ?hi82 ?hs82 ?hf82 ?hr82 ?hq82 (Or.inl ⟨?hw82, ?hy82⟩) hHeld ?rest82
    case hi82 => rw [List.getElem?_toArray]; rfl
    case hq82 => exact fun _ _ _ h => h
    case hs82 | hf82 | hr82 => kernel_rfl
    case hw82 => rfl
    case hy82 => (intro w1 hSw; (try dsimp only at hSw); go_simp; try with_reducible rfl)
    (try simp only [Act.put, List.setIfInBounds_toArray, List.set_cons_zero, List.set_cons_succ])
    refine wpAnyH_take (i := 8) (oi := ?oi83) (v := ?v83) (fuel := 9) ?hi83 ?hs83 ?hf83 ?hr83 ?hq83 (Or.inl ⟨?hw83, ?hy83⟩) hHeld ?rest83
    case hi83 => rw [List.getElem?_toArray]; rfl
    case hq83 => exact fun _ _ _ h => h
    case hs83 | hf83 | hr83 => kernel_rfl
    case hw83 => rfl
    case hy83 => (intro w1 hSw; (try dsimp only at hSw); go_simp; try with_reducible rfl)
    (try simp only [Act.put, List.setIfInBounds_toArray, List.set_cons_zero, List.set_cons_succ])
    refine wpAnyH_take (i := 9) (oi := ?oi84) (v := .bool false) (fuel := 8) ?hi84 ?hs84 ?hf84 ?hr84 ?hq84 (Or.inl ⟨?hw84, ?hy84⟩) hHeld ?rest84
    case hi84 => rw [List.getElem?_toArray]; rfl
    case hq84 => exact fun _ _ _ h => h
    case hs84 | hf84 | hr84 => kernel_rfl
    case hw84 => rfl
    case hy84 => (intro w1 hSw; (try dsimp only at hSw); go_simp; try simp [d4])
    (try simp only [Act.put, List.setIfInBounds_toArray, List.set_cons_zero, List.set_cons_succ])
    refine wpAnyH_take (i := 10) (oi := ?oi85) (v := ?v85) (fuel := 7) ?hi85 ?hs85 ?hf85 ?hr85 ?hq85 (Or.inl ⟨?hw85, ?hy85⟩) hHeld ?rest85
    case hi85 => rw [List.getElem?_toArray]; rfl
    case hq85 => exact fun _ _ _ h => h
    case hs85 | hf85 | hr85 => kernel_rfl
    case hw85 => rfl
    case hy85 => (intro w1 hSw; (try dsimp only at hSw); go_simp; try with_reducible rfl)
    (try simp only [Act.put, List.setIfInBounds_toArray, List.set_cons_zero, List.set_cons_succ])
    refine wpAnyH_take (i := 11) (oi := ?oi86) (v := ?v86) (fuel := 6) ?hi86 ?hs86 ?hf86 ?hr86 ?hq86 (Or.inl ⟨?hw86, ?hy86⟩) hHeld ?rest86
    case hi86 => rw [List.getElem?_toArray]; rfl
    case hq86 => exact fun _ _ _ h => h
    case hs86 | hf86 | hr86 => kernel_rfl
    case hw86 => rfl
    case hy86 => (intro w1 hSw; (try dsimp only at hSw); go_simp; try with_reducible rfl)
    (try simp only [Act.put, List.setIfInBounds_toArray, List.set_cons_zero, List.set_cons_succ])
    refine wpAnyH_take (i := 12) (oi := ?oi87) (v := ?v87) (fuel := 5) ?hi87 ?hs87 ?hf87 ?hr87 ?hq87 (Or.inl ⟨?hw87, ?hy87⟩) hHeld ?rest87
    case hi87 => rw [List.getElem?_toArray]; rfl
    case hq87 => exact fun _ _ _ h => h
    case hs87 | hf87 | hr87 => kernel_rfl
    case hw87 => rfl
    case hy87 => (intro w1 hSw; (try dsimp only at hSw); go_simp; try with_reducible rfl)
    (try simp only [Act.put, List.setIfInBounds_toArray, List.set_cons_zero, List.set_cons_succ])
    refine wpAnyH_ready (fuel := 4) (rs := [13]) (by kernel_rfl) (by simp) ?_
    refine AllReadyH.cons (o := ?oi88) ?hi88 (fun K hK => ?st88) AllReadyH.nil
    case hi88 => rw [List.getElem?_toArray]; rfl
    go_simp
    refine (A3.out _).mono ?_
    rintro ee wr13 ⟨rfl, hbn⟩
    replace hZ := hid (hZ.out.below hbn)
    replace hbel := hid (hbel.out.to hbn)
    clear hbn
    go_wp2_with fail
    refine hK.out _ _ ?hS88 (fun hHeld => ?re88)
    case hS88 => exact ⟨(RBox.box hZ.out).c0, (RBox.box hZ.out).c1, (RBox.box hZ.out).c2, (RBox.box hZ.out).c3⟩
    clear hK K
    (try simp only [Act.put, List.setIfInBounds_toArray, List.set_cons_zero, List.set_cons_succ])
    refine wpAnyH_take (i := 14) (oi := ?oi89) (v := ?v89) (fuel := 3) ?hi89 ?hs89 ?hf89 ?hr89 ?hq89 (Or.inl ⟨?hw89, ?hy89⟩) hHeld ?rest89
    case hi89 => rw [List.getElem?_toArray]; rfl
    case hq89 => exact fun _ _ _ h => h
    case hs89 | hf89 | hr89 => kernel_rfl
    case hw89 => rfl
    case hy89 => (intro w1 hSw; (try dsimp only at hSw); go_simp; try with_reducible rfl)
    (try simp only [Act.put, List.setIfInBounds_toArray, List.set_cons_zero, List.set_cons_succ])
    refine wpAnyH_take (i := 15) (oi := ?oi90) (v := ?v90) (fuel := 2) ?hi90 ?hs90 ?hf90 ?hr90 ?hq90 (Or.inl ⟨?hw90, ?hy90⟩) hHeld ?rest90
    case hi90 => rw [List.getElem?_toArray]; rfl
    case hq90 => exact fun _ _ _ h => h
    case hs90 | hf90 | hr90 => kernel_rfl
    case hw90 => rfl
    case hy90 => (intro w1 hSw; (try dsimp only at hSw); go_simp; try with_reducible rfl)
    (try simp only [Act.put, List.setIfInBounds_toArray, List.set_cons_zero, List.set_cons_succ])
    refine wpAnyH_take (i := 16) (oi := ?oi91) (v := ?v91) (fuel := 1) ?hi91 ?hs91 ?hf91 ?hr91 ?hq91 (Or.inl ⟨?hw91, ?hy91⟩) hHeld ?rest91
    case hi91 => rw [List.getElem?_toArray]; rfl
    case hq91 => exact fun _ _ _ h => h
    case hs91 | hf91 | hr91 => kernel_rfl
    case hw91 => rfl
    case hy91 => (intro w1 hSw; (try dsimp only at hSw); go_simp; try with_reducible rfl)
    (try simp only [Act.put, List.setIfInBounds_toArray, List.set_cons_zero, List.set_cons_succ])
    refine wpAnyH_take (i := 17) (oi := ?oi92) (v := ?v92) (fuel := 0) ?hi92 ?hs92 ?hf92 ?hr92 ?hq92 (Or.inl ⟨?hw92, ?hy92⟩) hHeld ?rest92
    case hi92 => rw [List.getElem?_toArray]; rfl
    case hq92 => exact fun _ _ _ h => h
    case hs92 | hf92 | hr92 => kernel_rfl
    case hw92 => rfl
    case hy92 => (intro w1 hSw; (try dsimp only at hSw); go_simp; try with_reducible rfl)
    (try simp only [Act.put, List.setIfInBounds_toArray, List.set_cons_zero, List.set_cons_succ])
    refine wpAnyH_done (by kernel_rfl) ?_ _
    clear hHeld
    generalize wr13 = w5 at *
    have bZ5 := hZ
    have bel5 := hbel
    clear hbel hZ
    go_wp2_with fail
    go_ret
    exact ⟨rfl, bel5.out⟩
  obtain ⟨N, rfl⟩ : ∃ N : Nat, n = N := ⟨n.toNat, by omega⟩
  have hP := one_p (n := N) (by omega)
  have A1 := hid (fun w => c_RangeOne N w (by simp [inB]; omega))
  have A2 := hid (fun w => c_specOne N w (by simp [inB]; omega))
  have A3 := hid hP.ok
  have A4 := hid hP.has
  have A5 := hid hP.no
  have A6 := hid hP.least
  have A7 := hid hP.tidy
  clear hP
  have hN : (N : Int) ≤ 4294967295 := by omega
  have d0 : decide ((N : Int) < 0) = false := by simp <;> omega
  have d3 : decide (4294967295 < N) = false := by simp; omega
  have d5 : decide ((4294967295 : Int) < N) = false := by simp; omega
  have hw : IntKind.i64.wrap ((N : Int) + 1) = (N : Int) + 1 := wrap_id (by omega) (by omega)
  refine (A1.out _).mono ?_
  rintro e w2 ⟨rfl, hb2⟩
  have bel2 := hid (bel1.out.to hb2)
  clear hb2  bel1
  go_wp2_with fail
  have bZ3 := hid (RBox.new w2 (N) (N) (N) (0))
  have bel3 := hid (bel2.out.alloc bel2.out.size (cellsR4 (N) (N) (N) (0)))
  have leZ := bel2.out.size
  clear  bel2
  generalize w2.alloc (cellsR4 (N) (N) (N) (0)) = w3 at *
  generalize w2.heap.size = Z at *
  refine wp_region_held_drew (S := (fun w' => w'.cell? ⟨Z, 0, none⟩ = some (.int .i64 (N)) ∧ w'.cell? ⟨Z, 1, none⟩ = some (.int .i64 (N)) ∧ w'.cell? ⟨Z, 2, none⟩ = some (.int .i64 (N)) ∧ w'.cell? ⟨Z, 3, none⟩ = some (.int .i64 (0)))) (by kernel_rfl) (by exact ⟨(RBox.box bZ3.out).c0, (RBox.box bZ3.out).c1, (RBox.box bZ3.out).c2, (RBox.box bZ3.out).c3⟩) (fun hHeld => ?_)
  have hZ := hid (RBox.drew bZ3.out)
  have hbel := hid (Below.drew bel3.out)
  clear bZ3 bel3
  generalize w3.drew = W1 at *
  refine wpAnyH_take (i := 0) (oi := ?oi93) (v := ?v93) (fuel := 11) ?hi93 ?hs93 ?hf93 ?hr93 ?hq93 (Or.inl ⟨?hw93, ?hy93⟩) hHeld ?rest93
  case hi93 => rw [List.getElem?_toArray]; rfl
  case hq93 => exact fun _ _ _ h => h
  case hs93 | hf93 | hr93 => kernel_rfl
  case hw93 => rfl
  case hy93 => (intro w1 hSw; (try dsimp only at hSw); go_simp; try with_reducible rfl)
  (try simp only [Act.put, List.setIfInBounds_toArray, List.set_cons_zero, List.set_cons_succ])
  refine wpAnyH_take (i := 1) (oi := ?oi94) (v := ?v94) (fuel := 10) ?hi94 ?hs94 ?hf94 ?hr94 ?hq94 (Or.inl ⟨?hw94, ?hy94⟩) hHeld ?rest94
  case hi94 => rw [List.getElem?_toArray]; rfl
  case hq94 => exact fun _ _ _ h => h
  case hs94 | hf94 | hr94 => kernel_rfl
  case hw94 => rfl
  case hy94 => (intro w1 hSw; (try dsimp only at hSw); go_simp; try with_reducible rfl)
  (try simp only [Act.put, List.setIfInBounds_toArray, List.set_cons_zero, List.set_cons_succ])
  refine wpAnyH_ready (fuel := 9) (rs := [2]) (by kernel_rfl) (by simp) ?_
  refine AllReadyH.cons (o := ?oi95) ?hi95 (fun K hK => ?st95) AllReadyH.nil
  case hi95 => rw [List.getElem?_toArray]; rfl
  go_simp
  refine (A2.out _).mono ?_
  rintro ee wr2 ⟨rfl, hbn⟩
  replace hZ := hid (hZ.out.below hbn)
  replace hbel := hid (hbel.out.to hbn)
  clear hbn
  go_wp2_with fail
  refine hK.out _ _ ?hS95 (fun hHeld => ?re95)
  case hS95 => exact ⟨(RBox.box hZ.out).c0, (RBox.box hZ.out).c1, (RBox.box hZ.out).c2, (RBox.box hZ.out).c3⟩
  clear hK K
  (try simp only [Act.put, List.setIfInBounds_toArray, List.set_cons_zero, List.set_cons_succ])
  refine wpAnyH_take (i := 3) (oi := ?oi96) (v := ?v96) (fuel := 8) ?hi96 ?hs96 ?hf96 ?hr96 ?hq96 (Or.inl ⟨?hw96, ?hy96⟩) hHeld ?rest96
  case hi96 => rw [List.getElem?_toArray]; rfl
  case hq96 => exact fun _ _ _ h => h
  case hs96 | hf96 | hr96 => kernel_rfl
  case hw96 => rfl
  case hy96 => (intro w1 hSw; (try dsimp only at hSw); go_simp; try with_reducible rfl)
  (try simp only [Act.put, List.setIfInBounds_toArray, List.set_cons_zero, List.set_cons_succ])
  refine wpAnyH_take (i := 4) (oi := ?oi97) (v := ?v97) (fuel := 7) ?hi97 ?hs97 ?hf97 ?hr97 ?hq97 (Or.inl ⟨?hw97, ?hy97⟩) hHeld ?rest97
  case hi97 => rw [List.getElem?_toArray]; rfl
  case hq97 => exact fun _ _ _ h => h
  case hs97 | hf97 | hr97 => kernel_rfl
  case hw97 => rfl
  case hy97 => (intro w1 hSw; (try dsimp only at hSw); go_simp; try with_reducible rfl)
  (try simp only [Act.put, List.setIfInBounds_toArray, List.set_cons_zero, List.set_cons_succ])
  refine wpAnyH_take (i := 5) (oi := ?oi98) (v := ?v98) (fuel := 6) ?hi98 ?hs98 ?hf98 ?hr98 ?hq98 (Or.inl ⟨?hw98, ?hy98⟩) hHeld ?rest98
  case hi98 => rw [List.getElem?_toArray]; rfl
  case hq98 => exact fun _ _ _ h => h
  case hs98 | hf98 | hr98 => kernel_rfl
  case hw98 => rfl
  case hy98 => (intro w1 hSw; (try dsimp only at hSw); go_simp; try with_reducible rfl)
  (try simp only [Act.put, List.setIfInBounds_toArray, List.set_cons_zero, List.set_cons_succ])
  refine wpAnyH_take (i := 6) (oi := ?oi99) (v := .bool false) (fuel := 5) ?hi99 ?hs99 ?hf99 ?hr99 ?hq99 (Or.inl ⟨?hw99, ?hy99⟩) hHeld ?rest99
  case hi99 => rw [List.getElem?_toArray]; rfl
  case hq99 => exact fun _ _ _ h => h
  case hs99 | hf99 | hr99 => kernel_rfl
  case hw99 => rfl
  case hy99 => (intro w1 hSw; (try dsimp only at hSw); go_simp; try simp [d0])
  (try simp only [Act.put, List.setIfInBounds_toArray, List.set_cons_zero, List.set_cons_succ])
  refine wpAnyH_take (i := 7) (oi := ?oi100) (v := ?v100) (fuel := 4) ?hi100 ?hs100 ?hf100 ?hr100 ?hq100 (Or.inl ⟨?hw100, ?hy100⟩) hHeld ?rest100
  case hi100 => rw [List.getElem?_toArray]; rfl
  case hq100 => exact fun _ _ _ h => h
  case hs100 | hf100 | hr100 => kernel_rfl
  case hw100 => rfl
  case hy100 => (intro w1 hSw; (try dsimp only at hSw); go_simp; try with_reducible rfl)
  (try simp only [Act.put, List.setIfInBounds_toArray, List.set_cons_zero, List.set_cons_succ])
  refine wpAnyH_take (i := 8) (oi := ?oi101) (v := ?v101) (fuel := 3) ?hi101 ?hs101 ?hf101 ?hr101 ?hq101 (Or.inl ⟨?hw101, ?hy101⟩) hHeld ?rest101
  case hi101 => rw [List.getElem?_toArray]; rfl
  case hq101 => exact fun _ _ _ h => h
  case hs101 | hf101 | hr101 => kernel_rfl
  case hw101 => rfl
  case hy101 => (intro w1 hSw; (try dsimp only at hSw); go_simp; try with_reducible rfl)
  (try simp only [Act.put, List.setIfInBounds_toArray, List.set_cons_zero, List.set_cons_succ])
  refine wpAnyH_take (i := 9) (oi := ?oi102) (v := ?v102) (fuel := 2) ?hi102 ?hs102 ?hf102 ?hr102 ?hq102 (Or.inl ⟨?hw102, ?hy102⟩) hHeld ?rest102
  case hi102 => rw [List.getElem?_toArray]; rfl
  case hq102 => exact fun _ _ _ h => h
  case hs102 | hf102 | hr102 => kernel_rfl
  case hw102 => rfl
  case hy102 => (intro w1 hSw; (try dsimp only at hSw); go_simp; try with_reducible rfl)
  (try simp only [Act.put, List.setIfInBounds_toArray, List.set_cons_zero, List.set_cons_succ])
  refine wpAnyH_take (i := 10) (oi := ?oi103) (v := .bool false) (fuel := 1) ?hi103 ?hs103 ?hf103 ?hr103 ?hq103 (Or.inl ⟨?hw103, ?hy103⟩) hHeld ?rest103
  case hi103 => rw [List.getElem?_toArray]; rfl
  case hq103 => exact fun _ _ _ h => h
  case hs103 | hf103 | hr103 => kernel_rfl
  case hw103 => rfl
  case hy103 => (intro w1 hSw; (try dsimp only at hSw); go_simp; try simp [d3, d5])
  (try simp only [Act.put, List.setIfInBounds_toArray, List.set_cons_zero, List.set_cons_succ])
  refine wpAnyH_take (i := 11) (oi := ?oi104) (v := ?v104) (fuel := 0) ?hi104 ?hs104 ?hf104 ?hr104 ?hq104 (Or.inl ⟨?hw104, ?hy104⟩) hHeld ?rest104
  case hi104 => rw [List.getElem?_toArray]; rfl
  case hq104 => exact fun _ _ _ h => h
  case hs104 | hf104 | hr104 => kernel_rfl
  case hw104 => rfl
  case hy104 => (intro w1 hSw; (try dsimp only at hSw); go_simp; try with_reducible rfl)
  (try simp only [Act.put, List.setIfInBounds_toArray, List.set_cons_zero, List.set_cons_succ])
  refine wpAnyH_done (by kernel_rfl) ?_ _
  clear hHeld
  generalize wr2 = w4 at *
  have bZ4 := hZ
  have bel4 := hbel
  clear hbel hZ
  go_wp2_with fail
  refine wp_region_held_drew (S := (fun w' => w'.cell? ⟨Z, 0, none⟩ = some (.int .i64 (N)) ∧ w'.cell? ⟨Z, 1, none⟩ = some (.int .i64 (N)) ∧ w'.cell? ⟨Z, 2, none⟩ = some (.int .i64 (N)) ∧ w'.cell? ⟨Z, 3, none⟩ = some (.int .i64 (0)))) (by kernel_rfl) (by exact ⟨(RBox.box bZ4.out).c0, (RBox.box bZ4.out).c1, (RBox.box bZ4.out).c2, (RBox.box bZ4.out).c3⟩) (fun hHeld => ?_)
  have hZ := hid (RBox.drew bZ4.out)
  have hbel := hid (Below.drew bel4.out)
  clear bZ4 bel4
  generalize w4.drew = W1 at *
  refine wpAnyH_take (i := 0) (oi := ?oi105) (v := ?v105) (fuel := 27) ?hi105 ?hs105 ?hf105 ?hr105 ?hq105 (Or.inl ⟨?hw105, ?hy105⟩) hHeld ?rest105
  case hi105 => rw [List.getElem?_toArray]; rfl
  case hq105 => exact fun _ _ _ h => h
  case hs105 | hf105 | hr105 => kernel_rfl
  case hw105 => rfl
  case hy105 => (intro w1 hSw; (try dsimp only at hSw); go_simp; try with_reducible rfl)
  (try simp only [Act.put, List.setIfInBounds_toArray, List.set_cons_zero, List.set_cons_succ])
  refine wpAnyH_ready (fuel := 26) (rs := [1]) (by kernel_rfl) (by simp) ?_
  refine AllReadyH.cons (o := ?oi106) ?hi106 (fun K hK => ?st106) AllReadyH.nil
  case hi106 => rw [List.getElem?_toArray]; rfl
  go_simp
  refine (A3.out _).mono ?_
  rintro ee wr1 ⟨rfl, hbn⟩
  replace hZ := hid (hZ.out.below hbn)
  replace hbel := hid (hbel.out.to hbn)
  clear hbn
  go_wp2_with fail
  refine hK.out _ _ ?hS106 (fun hHeld => ?re106)
  case hS106 => exact ⟨(RBox.box hZ.out).c0, (RBox.box hZ.out).c1, (RBox.box hZ.out).c2, (RBox.box hZ.out).c3⟩
  clear hK K
  (try simp only [Act.put, List.setIfInBounds_toArray, List.set_cons_zero, List.set_cons_succ])
  refine wpAnyH_take (i := 2) (oi := ?oi107) (v := ?v107) (fuel := 25) ?hi107 ?hs107 ?hf107 ?hr107 ?hq107 (Or.inl ⟨?hw107, ?hy107⟩) hHeld ?rest107
  case hi107 => rw [List.getElem?_toArray]; rfl
  case hq107 => exact fun _ _ _ h => h
  case hs107 | hf107 | hr107 => kernel_rfl
  case hw107 => rfl
  case hy107 => (intro w1 hSw; (try dsimp only at hSw); go_simp; try with_reducible rfl)
  (try simp only [Act.put, List.setIfInBounds_toArray, List.set_cons_zero, List.set_cons_succ])
  refine wpAnyH_take (i := 3) (oi := ?oi108) (v := ?v108) (fuel := 24) ?hi108 ?hs108 ?hf108 ?hr108 ?hq108 (Or.inl ⟨?hw108, ?hy108⟩) hHeld ?rest108
  case hi108 => rw [List.getElem?_toArray]; rfl
  case hq108 => exact fun _ _ _ h => h
  case hs108 | hf108 | hr108 => kernel_rfl
  case hw108 => rfl
  case hy108 => (intro w1 hSw; (try dsimp only at hSw); go_simp; try with_reducible rfl)
  (try simp only [Act.put, List.setIfInBounds_toArray, List.set_cons_zero, List.set_cons_succ])
  refine wpAnyH_take (i := 4) (oi := ?oi109) (v := ?v109) (fuel := 23) ?hi109 ?hs109 ?hf109 ?hr109 ?hq109 (Or.inl ⟨?hw109, ?hy109⟩) hHeld ?rest109
  case hi109 => rw [List.getElem?_toArray]; rfl
  case hq109 => exact fun _ _ _ h => h
  case hs109 | hf109 | hr109 => kernel_rfl
  case hw109 => rfl
  case hy109 => (intro w1 hSw; (try dsimp only at hSw); go_simp; try with_reducible rfl)
  (try simp only [Act.put, List.setIfInBounds_toArray, List.set_cons_zero, List.set_cons_succ])
  refine wpAnyH_ready (fuel := 22) (rs := [5]) (by kernel_rfl) (by simp) ?_
  refine AllReadyH.cons (o := ?oi110) ?hi110 (fun K hK => ?st110) AllReadyH.nil
  case hi110 => rw [List.getElem?_toArray]; rfl
  go_simp
  refine (A4.out _).mono ?_
  rintro ee wr5 ⟨rfl, hbn⟩
  replace hZ := hid (hZ.out.below hbn)
  replace hbel := hid (hbel.out.to hbn)
  clear hbn
  go_wp2_with fail
  refine hK.out _ _ ?hS110 (fun hHeld => ?re110)
  case hS110 => exact ⟨(RBox.box hZ.out).c0, (RBox.box hZ.out).c1, (RBox.box hZ.out).c2, (RBox.box hZ.out).c3⟩
  clear hK K
  (try simp only [Act.put, List.setIfInBounds_toArray, List.set_cons_zero, List.set_cons_succ])
  refine wpAnyH_take (i := 6) (oi := ?oi111) (v := ?v111) (fuel := 21) ?hi111 ?hs111 ?hf111 ?hr111 ?hq111 (Or.inl ⟨?hw111, ?hy111⟩) hHeld ?rest111
  case hi111 => rw [List.getElem?_toArray]; rfl
  case hq111 => exact fun _ _ _ h => h
  case hs111 | hf111 | hr111 => kernel_rfl
  case hw111 => rfl
  case hy111 => (intro w1 hSw; (try dsimp only at hSw); go_simp; try with_reducible rfl)
  (try simp only [Act.put, List.setIfInBounds_toArray, List.set_cons_zero, List.set_cons_succ])
  refine wpAnyH_take (i := 7) (oi := ?oi112) (v := ?v112) (fuel := 20) ?hi112 ?hs112 ?hf112 ?hr112 ?hq112 (Or.inl ⟨?hw112, ?hy112⟩) hHeld ?rest112
  case hi112 => rw [List.getElem?_toArray]; rfl
  case hq112 => exact fun _ _ _ h => h
  case hs112 | hf112 | hr112 => kernel_rfl
  case hw112 => rfl
  case hy112 => (intro w1 hSw; (try dsimp only at hSw); go_simp; try with_reducible rfl)
  (try simp only [Act.put, List.setIfInBounds_toArray, List.set_cons_zero, List.set_cons_succ])
  refine wpAnyH_take (i := 8) (oi := ?oi113) (v := ?v113) (fuel := 19) ?hi113 ?hs113 ?hf113 ?hr113 ?hq113 (Or.inl ⟨?hw113, ?hy113⟩) hHeld ?rest113
  case hi113 => rw [List.getElem?_toArray]; rfl
  case hq113 => exact fun _ _ _ h => h
  case hs113 | hf113 | hr113 => kernel_rfl
  case hw113 => rfl
  case hy113 => (intro w1 hSw; (try dsimp only at hSw); go_simp; try with_reducible rfl)
  (try simp only [Act.put, List.setIfInBounds_toArray, List.set_cons_zero, List.set_cons_succ])
  refine wpAnyH_take (i := 9) (oi := ?oi114) (v := ?v114) (fuel := 18) ?hi114 ?hs114 ?hf114 ?hr114 ?hq114 (Or.inl ⟨?hw114, ?hy114⟩) hHeld ?rest114
  case hi114 => rw [List.getElem?_toArray]; rfl
  case hq114 => exact fun _ _ _ h => h
  case hs114 | hf114 | hr114 => kernel_rfl
  case hw114 => rfl
  case hy114 => (intro w1 hSw; (try dsimp only at hSw); go_simp; try with_reducible rfl)
  (try simp only [Act.put, List.setIfInBounds_toArray, List.set_cons_zero, List.set_cons_succ])
  refine wpAnyH_take (i := 10) (oi := ?oi115) (v := ?v115) (fuel := 17) ?hi115 ?hs115 ?hf115 ?hr115 ?hq115 (Or.inl ⟨?hw115, ?hy115⟩) hHeld ?rest115
  case hi115 => rw [List.getElem?_toArray]; rfl
  case hq115 => exact fun _ _ _ h => h
  case hs115 | hf115 | hr115 => kernel_rfl
  case hw115 => rfl
  case hy115 => (intro w1 hSw; (try dsimp only at hSw); go_simp; try with_reducible rfl)
  (try simp only [Act.put, List.setIfInBounds_toArray, List.set_cons_zero, List.set_cons_succ])
  refine wpAnyH_take (i := 11) (oi := ?oi116) (v := ?v116) (fuel := 16) ?hi116 ?hs116 ?hf116 ?hr116 ?hq116 (Or.inl ⟨?hw116, ?hy116⟩) hHeld ?rest116
  case hi116 => rw [List.getElem?_toArray]; rfl
  case hq116 => exact fun _ _ _ h => h
  case hs116 | hf116 | hr116 => kernel_rfl
  case hw116 => rfl
  case hy116 => (intro w1 hSw; (try dsimp only at hSw); go_simp; try with_reducible rfl)
  (try simp only [Act.put, List.setIfInBounds_toArray, List.set_cons_zero, List.set_cons_succ])
  refine wpAnyH_ready (fuel := 15) (rs := [12]) (by kernel_rfl) (by simp) ?_
  refine AllReadyH.cons (o := ?oi117) ?hi117 (fun K hK => ?st117) AllReadyH.nil
  case hi117 => rw [List.getElem?_toArray]; rfl
  go_simp
  refine (A5.out _ (by first | omega | (rw [Int.tmod_eq_emod_of_nonneg (by omega)]; omega)) _).mono ?_
  rintro ee wr12 ⟨rfl, hbn⟩
  replace hZ := hid (hZ.out.below hbn)
  replace hbel := hid (hbel.out.to hbn)
  clear hbn
  go_wp2_with fail
  refine hK.out _ _ ?hS117 (fun hHeld => ?re117)
  case hS117 => exact ⟨(RBox.box hZ.out).c0, (RBox.box hZ.out).c1, (RBox.box hZ.out).c2, (RBox.box hZ.out).c3⟩
  clear hK K
  (try simp only [Act.put, List.setIfInBounds_toArray, List.set_cons_zero, List.set_cons_succ])
  refine wpAnyH_take (i := 13) (oi := ?oi118) (v := ?v118) (fuel := 14) ?hi118 ?hs118 ?hf118 ?hr118 ?hq118 (Or.inl ⟨?hw118, ?hy118⟩) hHeld ?rest118
  case hi118 => rw [List.getElem?_toArray]; rfl
  case hq118 => exact fun _ _ _ h => h
  case hs118 | hf118 | hr118 => kernel_rfl
  case hw118 => rfl
  case hy118 => (intro w1 hSw; (try dsimp only at hSw); go_simp; try with_reducible rfl)
  (try simp only [Act.put, List.setIfInBounds_toArray, List.set_cons_zero, List.set_cons_succ])
  refine wpAnyH_take (i := 14) (oi := ?oi119) (v := ?v119) (fuel := 13) ?hi119 ?hs119 ?hf119 ?hr119 ?hq119 (Or.inl ⟨?hw119, ?hy119⟩) hHeld ?rest119
  case hi119 => rw [List.getElem?_toArray]; rfl
  case hq119 => exact fun _ _ _ h => h
  case hs119 | hf119 | hr119 => kernel_rfl
  case hw119 => rfl
  case hy119 => (intro w1 hSw; (try dsimp only at hSw); go_simp; try with_reducible rfl)
  (try simp only [Act.put, List.setIfInBounds_toArray, List.set_cons_zero, List.set_cons_succ])
  refine wpAnyH_take (i := 15) (oi := ?oi120) (v := ?v120) (fuel := 12) ?hi120 ?hs120 ?hf120 ?hr120 ?hq120 (Or.inl ⟨?hw120, ?hy120⟩) hHeld ?rest120
  case hi120 => rw [List.getElem?_toArray]; rfl
  case hq120 => exact fun _ _ _ h => h
  case hs120 | hf120 | hr120 => kernel_rfl
  case hw120 => rfl
  case hy120 => (intro w1 hSw; (try dsimp only at hSw); go_simp; try with_reducible rfl)
  (try simp only [Act.put, List.setIfInBounds_toArray, List.set_cons_zero, List.set_cons_succ])
  refine wpAnyH_take (i := 16) (oi := ?oi121) (v := ?v121) (fuel := 11) ?hi121 ?hs121 ?hf121 ?hr121 ?hq121 (Or.inl ⟨?hw121, ?hy121⟩) hHeld ?rest121
  case hi121 => rw [List.getElem?_toArray]; rfl
  case hq121 => exact fun _ _ _ h => h
  case hs121 | hf121 | hr121 => kernel_rfl
  case hw121 => rfl
  case hy121 => (intro w1 hSw; (try dsimp only at hSw); go_simp; try with_reducible rfl)
  (try simp only [Act.put, List.setIfInBounds_toArray, List.set_cons_zero, List.set_cons_succ])
  refine wpAnyH_take (i := 18) (oi := ?oi122) (v := ?v122) (fuel := 10) ?hi122 ?hs122 ?hf122 ?hr122 ?hq122 (Or.inl ⟨?hw122, ?hy122⟩) hHeld ?rest122
  case hi122 => rw [List.getElem?_toArray]; rfl
  case hq122 => exact fun _ _ _ h => h
  case hs122 | hf122 | hr122 => kernel_rfl
  case hw122 => rfl
  case hy122 => (intro w1 hSw; (try dsimp only at hSw); go_simp; try with_reducible rfl)
  (try simp only [Act.put, List.setIfInBounds_toArray, List.set_cons_zero, List.set_cons_succ])
  refine wpAnyH_ready (fuel := 9) (rs := [17]) (by kernel_rfl) (by simp) ?_
  refine AllReadyH.cons (o := ?oi123) ?hi123 (fun K hK => ?st123) AllReadyH.nil
  case hi123 => rw [List.getElem?_toArray]; rfl
  go_simp
  refine (A6.out _).mono ?_
  rintro ee wr17 ⟨rfl, hbn⟩
  replace hZ := hid (hZ.out.below hbn)
  replace hbel := hid (hbel.out.to hbn)
  clear hbn
  go_wp2_with fail
  refine hK.out _ _ ?hS123 (fun hHeld => ?re123)
  case hS123 => exact ⟨(RBox.box hZ.out).c0, (RBox.box hZ.out).c1, (RBox.box hZ.out).c2, (RBox.box hZ.out).c3⟩
  clear hK K
  (try simp only [Act.put, List.setIfInBounds_toArray, List.set_cons_zero, List.set_cons_succ])
  refine wpAnyH_take (i := 19) (oi := ?oi124) (v := ?v124) (fuel := 8) ?hi124 ?hs124 ?hf124 ?hr124 ?hq124 (Or.inl ⟨?hw124, ?hy124⟩) hHeld ?rest124
  case hi124 => rw [List.getElem?_toArray]; rfl
  case hq124 => exact fun _ _ _ h => h
  case hs124 | hf124 | hr124 => kernel_rfl
  case hw124 => rfl
  case hy124 => (intro w1 hSw; (try dsimp only at hSw); go_simp; try with_reducible rfl)
  (try simp only [Act.put, List.setIfInBounds_toArray, List.set_cons_zero, List.set_cons_succ])
  refine wpAnyH_take (i := 20) (oi := ?oi125) (v := ?v125) (fuel := 7) ?hi125 ?hs125 ?hf125 ?hr125 ?hq125 (Or.inl ⟨?hw125, ?hy125⟩) hHeld ?rest125
  case hi125 => rw [List.getElem?_toArray]; rfl
  case hq125 => exact fun _ _ _ h => h
  case hs125 | hf125 | hr125 => kernel_rfl
  case hw125 => rfl
  case hy125 => (intro w1 hSw; (try dsimp only at hSw); go_simp; try with_reducible rfl)
  (try simp only [Act.put, List.setIfInBounds_toArray, List.set_cons_zero, List.set_cons_succ])
  refine wpAnyH_take (i := 21) (oi := ?oi126) (v := ?v126) (fuel := 6) ?hi126 ?hs126 ?hf126 ?hr126 ?hq126 (Or.inl ⟨?hw126, ?hy126⟩) hHeld ?rest126
  case hi126 => rw [List.getElem?_toArray]; rfl
  case hq126 => exact fun _ _ _ h => h
  case hs126 | hf126 | hr126 => kernel_rfl
  case hw126 => rfl
  case hy126 => (intro w1 hSw; (try dsimp only at hSw); go_simp; try with_reducible rfl)
  (try simp only [Act.put, List.setIfInBounds_toArray, List.set_cons_zero, List.set_cons_succ])
  refine wpAnyH_take (i := 22) (oi := ?oi127) (v := ?v127) (fuel := 5) ?hi127 ?hs127 ?hf127 ?hr127 ?hq127 (Or.inl ⟨?hw127, ?hy127⟩) hHeld ?rest127
  case hi127 => rw [List.getElem?_toArray]; rfl
  case hq127 => exact fun _ _ _ h => h
  case hs127 | hf127 | hr127 => kernel_rfl
  case hw127 => rfl
  case hy127 => (intro w1 hSw; (try dsimp only at hSw); go_simp; try with_reducible rfl)
  (try simp only [Act.put, List.setIfInBounds_toArray, List.set_cons_zero, List.set_cons_succ])
  refine wpAnyH_take (i := 24) (oi := ?oi128) (v := ?v128) (fuel := 4) ?hi128 ?hs128 ?hf128 ?hr128 ?hq128 (Or.inl ⟨?hw128, ?hy128⟩) hHeld ?rest128
  case hi128 => rw [List.getElem?_toArray]; rfl
  case hq128 => exact fun _ _ _ h => h
  case hs128 | hf128 | hr128 => kernel_rfl
  case hw128 => rfl
  case hy128 => (intro w1 hSw; (try dsimp only at hSw); go_simp; try with_reducible rfl)
  (try simp only [Act.put, List.setIfInBounds_toArray, List.set_cons_zero, List.set_cons_succ])
  refine wpAnyH_ready (fuel := 3) (rs := [23]) (by kernel_rfl) (by simp) ?_
  refine AllReadyH.cons (o := ?oi129) ?hi129 (fun K hK => ?st129) AllReadyH.nil
  case hi129 => rw [List.getElem?_toArray]; rfl
  go_simp
  refine (A7.out _).mono ?_
  rintro ee wr23 ⟨rfl, hbn⟩
  replace hZ := hid (hZ.out.below hbn)
  replace hbel := hid (hbel.out.to hbn)
  clear hbn
  go_wp2_with fail
  refine hK.out _ _ ?hS129 (fun hHeld => ?re129)
  case hS129 => exact ⟨(RBox.box hZ.out).c0, (RBox.box hZ.out).c1, (RBox.box hZ.out).c2, (RBox.box hZ.out).c3⟩
  clear hK K
  (try simp only [Act.put, List.setIfInBounds_toArray, List.set_cons_zero, List.set_cons_succ])
  refine wpAnyH_take (i := 25) (oi := ?oi130) (v := ?v130) (fuel := 2) ?hi130 ?hs130 ?hf130 ?hr130 ?hq130 (Or.inl ⟨?hw130, ?hy130⟩) hHeld ?rest130
  case hi130 => rw [List.getElem?_toArray]; rfl
  case hq130 => exact fun _ _ _ h => h
  case hs130 | hf130 | hr130 => kernel_rfl
  case hw130 => rfl
  case hy130 => (intro w1 hSw; (try dsimp only at hSw); go_simp; try with_reducible rfl)
  (try simp only [Act.put, List.setIfInBounds_toArray, List.set_cons_zero, List.set_cons_succ])
  refine wpAnyH_take (i := 26) (oi := ?oi131) (v := ?v131) (fuel := 1) ?hi131 ?hs131 ?hf131 ?hr131 ?hq131 (Or.inl ⟨?hw131, ?hy131⟩) hHeld ?rest131
  case hi131 => rw [List.getElem?_toArray]; rfl
  case hq131 => exact fun _ _ _ h => h
  case hs131 | hf131 | hr131 => kernel_rfl
  case hw131 => rfl
  case hy131 => (intro w1 hSw; (try dsimp only at hSw); go_simp; try with_reducible rfl)
  (try simp only [Act.put, List.setIfInBounds_toArray, List.set_cons_zero, List.set_cons_succ])
  refine wpAnyH_take (i := 27) (oi := ?oi132) (v := ?v132) (fuel := 0) ?hi132 ?hs132 ?hf132 ?hr132 ?hq132 (Or.inl ⟨?hw132, ?hy132⟩) hHeld ?rest132
  case hi132 => rw [List.getElem?_toArray]; rfl
  case hq132 => exact fun _ _ _ h => h
  case hs132 | hf132 | hr132 => kernel_rfl
  case hw132 => rfl
  case hy132 => (intro w1 hSw; (try dsimp only at hSw); go_simp; try with_reducible rfl)
  (try simp only [Act.put, List.setIfInBounds_toArray, List.set_cons_zero, List.set_cons_succ])
  refine wpAnyH_done (by kernel_rfl) ?_ _
  clear hHeld
  generalize wr23 = w5 at *
  have bZ5 := hZ
  have bel5 := hbel
  clear hbel hZ
  go_wp2_with fail
  go_ret
  exact ⟨rfl, bel5.out⟩
end Go.Proofs.Yteiglpijjffneaa
