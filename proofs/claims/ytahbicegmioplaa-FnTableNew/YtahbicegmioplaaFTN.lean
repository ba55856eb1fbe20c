/- The law of TableNew, drawn. -/
import Derived.Test.YtahbicegmioplaaTK
import Derived.Test.YtahbicegmioplaaDN
namespace Go.Proofs.Ytahbicegmioplaa
open Go.RowKit
set_option linter.unusedVariables false
set_option linter.unusedSimpArgs false

theorem keysN_at (m i : Nat) (h : i < (keysN m).length) : (keysN m)[i] = (i : Int) := by simp [keysN]
theorem new_row (s r : Int) (hs : inB s 1 8 = true) (hr : inB r 1 8 = true) : OkP 1 s r (keysN r.toNat) (List.replicate r.toNat (zerosB s.toNat)) := by
  simp [inB] at hs hr
  refine ⟨?_, ?_, ?_⟩
  · simp [shape2B, shapeB, inB, keysN_length]; omega
  · intro _; rw [keysN_length]; omega
  · rw [keysN_length]
    refine ⟨fun i h hi => ?_, fun i h hi => ?_, fun _ i h hi => ?_, fun i h hi j hj => ?_⟩
    · rw [List.getElem_replicate, zerosB_size]; omega
    · rw [keysN_at]; simp [inB]; omega
    · exact keysN_at _ _ _
    · rw [keysN_at, keysN_at]; omega
theorem new_hash (s r : Int) (hs : inB s 1 8 = true) (hr : inB r 1 8 = true) : OkP 2 s r [] [] := by
  simp [inB] at hs hr
  refine ⟨?_, ?_, Good.zero _ _ _ _⟩
  · simp [shape2B, shapeB, inB]; omega
  · intro h; omega

set_option maxRecDepth 100000 in
set_option maxHeartbeats 4000000 in
theorem law_fnTableNew (w : World) (a : Option Addr) (len cap : Nat) (hc : len ≤ cap) (hs : Src w a len) (hl : cap < 2 ^ 63) :
    Calls Try.prog 3 #[.slice a len cap] w fun e w' => e = .returned (.bool true) ∧ Below w.heap.size w w' := by
  have HS := hid hs
  clear hs
  go_enter Try.func3, Try.ntmps3
  go_wp2_with fail
  · go_ret
    exact ⟨rfl, Below.refl _ _⟩
  refine (drawNew_s w a len cap hc HS.out hl).mono ?_
  rintro e w1 ⟨k, s, r, rfl, k0, k1, s0, s1, r0, r1, hb1⟩
  have bel1 := hid hb1
  clear hb1
  go_wp2_with fail
  cases hsh : shapeB k s r
  · obtain ⟨KS, eKS⟩ : ∃ x : List Int, x = [] := ⟨_, rfl⟩
    obtain ⟨VS, eVS⟩ : ∃ x : List ByteArray, x = [] := ⟨_, rfl⟩
    have HT : Hid (newT k s r = ⟨0, 0, 0, KS, VS, 0⟩) := by show newT k s r = _; rw [eKS, eVS]; unfold newT; rw [hsh]; rfl
    have hKS : KS.length ≤ 1048576 := by rw [eKS]; simp
    have hVS : VS.length ≤ 1048576 := by rw [eVS]; simp
    clear eKS eVS hsh
    refine (new_o k s r _).mono ?_
    rw [HT.out]
    dsimp only
    rintro e w2 ⟨a2, b2, c2, d2, rfl, hr, hb2⟩
    have bel2 := hid (bel1.out.to hb2)
    clear bel1 hb2
    have rV2 := hid hr
    clear hr
    go_wp2_with fail
    have bm3 := hid (TB.new rV2.out 0 0 0)
    have bel3 := hid (bel2.out.alloc bel2.out.size (.cells #[.int .i64 0, .int .i64 0, .int .i64 0, .slice a2 KS.length c2, .slice b2 VS.length d2] 28))
    have lem := bel2.out.size
    clear rV2 bel2
    generalize w2.alloc (.cells #[.int .i64 0, .int .i64 0, .int .i64 0, .slice a2 KS.length c2, .slice b2 VS.length d2] 28) = w3 at *
    generalize w2.heap.size = m at *
    refine wp_region_held_drew (S := (fun w' => w'.cell? ⟨m, 0, none⟩ = some (.int .i64 0) ∧ w'.cell? ⟨m, 1, none⟩ = some (.int .i64 0) ∧ w'.cell? ⟨m, 2, none⟩ = some (.int .i64 0) ∧ w'.cell? ⟨m, 3, none⟩ = some (.slice a2 KS.length c2) ∧ w'.cell? ⟨m, 4, none⟩ = some (.slice b2 VS.length d2))) (by kernel_rfl) (by exact ⟨bm3.out.cl.1, bm3.out.cl.2.1, bm3.out.cl.2.2.1, bm3.out.cl.2.2.2.1, bm3.out.cl.2.2.2.2⟩) (fun hHeld => ?_)
    have hm := hid (bm3.out.drew)
    have hbel := hid (Below.drew bel3.out)
    clear bm3 bel3
    generalize w3.drew = W1 at *
    refine wpAnyH_take (i := 0) (oi := ?oi1) (v := ?v1) (fuel := 11) ?hi1 ?hs1 ?hf1 ?hr1 ?hq1 (Or.inl ⟨?hw1, ?hy1⟩) hHeld ?rest1
    case hi1 => rw [List.getElem?_toArray]; rfl
    case hq1 => exact fun _ _ _ h => h
    case hs1 | hf1 | hr1 => kernel_rfl
    case hw1 => rfl
    case hy1 => (intro w1 hSw; (try dsimp only at hSw); go_simp; try with_reducible rfl)
    (try simp only [Act.put, List.setIfInBounds_toArray, List.set_cons_zero, List.set_cons_succ])
    refine wpAnyH_take (i := 1) (oi := ?oi2) (v := ?v2) (fuel := 10) ?hi2 ?hs2 ?hf2 ?hr2 ?hq2 (Or.inl ⟨?hw2, ?hy2⟩) hHeld ?rest2
    case hi2 => rw [List.getElem?_toArray]; rfl
    case hq2 => exact fun _ _ _ h => h
    case hs2 | hf2 | hr2 => kernel_rfl
    case hw2 => rfl
    case hy2 => (intro w1 hSw; (try dsimp only at hSw); go_simp; try with_reducible rfl)
    (try simp only [Act.put, List.setIfInBounds_toArray, List.set_cons_zero, List.set_cons_succ])
    refine wpAnyH_take (i := 2) (oi := ?oi3) (v := ?v3) (fuel := 9) ?hi3 ?hs3 ?hf3 ?hr3 ?hq3 (Or.inl ⟨?hw3, ?hy3⟩) hHeld ?rest3
    case hi3 => rw [List.getElem?_toArray]; rfl
    case hq3 => exact fun _ _ _ h => h
    case hs3 | hf3 | hr3 => kernel_rfl
    case hw3 => rfl
    case hy3 => (intro w1 hSw; (try dsimp only at hSw); go_simp; try with_reducible rfl)
    (try simp only [Act.put, List.setIfInBounds_toArray, List.set_cons_zero, List.set_cons_succ])
    refine wpAnyH_take (i := 3) (oi := ?oi4) (v := ?v4) (fuel := 8) ?hi4 ?hs4 ?hf4 ?hr4 ?hq4 (Or.inl ⟨?hw4, ?hy4⟩) hHeld ?rest4
    case hi4 => rw [List.getElem?_toArray]; rfl
    case hq4 => exact fun _ _ _ h => h
    case hs4 | hf4 | hr4 => kernel_rfl
    case hw4 => rfl
    case hy4 => (intro w1 hSw; (try dsimp only at hSw); go_simp; try with_reducible rfl)
    (try simp only [Act.put, List.setIfInBounds_toArray, List.set_cons_zero, List.set_cons_succ])
    refine wpAnyH_ready (fuel := 7) (rs := [4]) (by kernel_rfl) (by simp) ?_
    refine AllReadyH.cons (o := ?oi5) ?hi5 (fun K hK => ?st5) AllReadyH.nil
    case hi5 => rw [List.getElem?_toArray]; rfl
    go_simp
    refine (snew_o k s r _).mono ?_
    rw [HT.out]
    dsimp only
    rintro ee wr4 ⟨a3, b3, c3, d3, rfl, hr, hbn⟩
    replace hm := hid (hm.out.below hbn)
    replace hbel := hid (hbel.out.to hbn)
    clear hbn
    have gY := hid hr
    clear hr
    go_wp2_with fail
    refine hK.out _ _ ?hS5 (fun hHeld => ?re5)
    case hS5 => exact ⟨hm.out.cl.1, hm.out.cl.2.1, hm.out.cl.2.2.1, hm.out.cl.2.2.2.1, hm.out.cl.2.2.2.2⟩
    clear hK K
    (try simp only [Act.put, List.setIfInBounds_toArray, List.set_cons_zero, List.set_cons_succ])
    refine wpAnyH_ready (fuel := 6) (rs := [5]) (by kernel_rfl) (by simp) ?_
    refine AllReadyH.cons (o := ?oi6) ?hi6 (fun K hK => ?st6) AllReadyH.nil
    case hi6 => rw [List.getElem?_toArray]; rfl
    go_simp
    refine (sg_o 0 0 0 KS VS a2 b2 a3 b3 c2 d2 c3 d3 _ hm.out.rw gY.out hKS hVS).mono ?_
    rintro ee wr5 ⟨rfl, hbn⟩
    replace hm := hid (hm.out.below hbn)
    replace gY := hid (gY.out.below hbn)
    replace hbel := hid (hbel.out.to hbn)
    clear hbn
    go_wp2_with fail
    refine hK.out _ _ ?hS6 (fun hHeld => ?re6)
    case hS6 => exact ⟨hm.out.cl.1, hm.out.cl.2.1, hm.out.cl.2.2.1, hm.out.cl.2.2.2.1, hm.out.cl.2.2.2.2⟩
    clear hK K
    (try simp only [Act.put, List.setIfInBounds_toArray, List.set_cons_zero, List.set_cons_succ])
    refine wpAnyH_take (i := 6) (oi := ?oi7) (v := ?v7) (fuel := 5) ?hi7 ?hs7 ?hf7 ?hr7 ?hq7 (Or.inl ⟨?hw7, ?hy7⟩) hHeld ?rest7
    case hi7 => rw [List.getElem?_toArray]; rfl
    case hq7 => exact fun _ _ _ h => h
    case hs7 | hf7 | hr7 => kernel_rfl
    case hw7 => rfl
    case hy7 => (intro w1 hSw; (try dsimp only at hSw); go_simp; try with_reducible rfl)
    (try simp only [Act.put, List.setIfInBounds_toArray, List.set_cons_zero, List.set_cons_succ])
    refine wpAnyH_take (i := 7) (oi := ?oi8) (v := ?v8) (fuel := 4) ?hi8 ?hs8 ?hf8 ?hr8 ?hq8 (Or.inl ⟨?hw8, ?hy8⟩) hHeld ?rest8
    case hi8 => rw [List.getElem?_toArray]; rfl
    case hq8 => exact fun _ _ _ h => h
    case hs8 | hf8 | hr8 => kernel_rfl
    case hw8 => rfl
    case hy8 => (intro w1 hSw; (try dsimp only at hSw); go_simp; try with_reducible rfl)
    (try simp only [Act.put, List.setIfInBounds_toArray, List.set_cons_zero, List.set_cons_succ])
    refine wpAnyH_take (i := 8) (oi := ?oi9) (v := ?v9) (fuel := 3) ?hi9 ?hs9 ?hf9 ?hr9 ?hq9 (Or.inl ⟨?hw9, ?hy9⟩) hHeld ?rest9
    case hi9 => rw [List.getElem?_toArray]; rfl
    case hq9 => exact fun _ _ _ h => h
    case hs9 | hf9 | hr9 => kernel_rfl
    case hw9 => rfl
    case hy9 => (intro w1 hSw; (try dsimp only at hSw); go_simp; try with_reducible rfl)
    (try simp only [Act.put, List.setIfInBounds_toArray, List.set_cons_zero, List.set_cons_succ])
    refine wpAnyH_take (i := 9) (oi := ?oi10) (v := ?v10) (fuel := 2) ?hi10 ?hs10 ?hf10 ?hr10 ?hq10 (Or.inl ⟨?hw10, ?hy10⟩) hHeld ?rest10
    case hi10 => rw [List.getElem?_toArray]; rfl
    case hq10 => exact fun _ _ _ h => h
    case hs10 | hf10 | hr10 => kernel_rfl
    case hw10 => rfl
    case hy10 => (intro w1 hSw; (try dsimp only at hSw); go_simp; try with_reducible rfl)
    (try simp only [Act.put, List.setIfInBounds_toArray, List.set_cons_zero, List.set_cons_succ])
    refine wpAnyH_take (i := 10) (oi := ?oi11) (v := ?v11) (fuel := 1) ?hi11 ?hs11 ?hf11 ?hr11 ?hq11 (Or.inl ⟨?hw11, ?hy11⟩) hHeld ?rest11
    case hi11 => rw [List.getElem?_toArray]; rfl
    case hq11 => exact fun _ _ _ h => h
    case hs11 | hf11 | hr11 => kernel_rfl
    case hw11 => rfl
    case hy11 => (intro w1 hSw; (try dsimp only at hSw); go_simp; try with_reducible rfl)
    (try simp only [Act.put, List.setIfInBounds_toArray, List.set_cons_zero, List.set_cons_succ])
    refine wpAnyH_take (i := 11) (oi := ?oi12) (v := ?v12) (fuel := 0) ?hi12 ?hs12 ?hf12 ?hr12 ?hq12 (Or.inl ⟨?hw12, ?hy12⟩) hHeld ?rest12
    case hi12 => rw [List.getElem?_toArray]; rfl
    case hq12 => exact fun _ _ _ h => h
    case hs12 | hf12 | hr12 => kernel_rfl
    case hw12 => rfl
    case hy12 => (intro w1 hSw; (try dsimp only at hSw); go_simp; try with_reducible rfl)
    (try simp only [Act.put, List.setIfInBounds_toArray, List.set_cons_zero, List.set_cons_succ])
    refine wpAnyH_done (by kernel_rfl) ?_ _
    clear hHeld
    generalize wr5 = w4 at *
    have bm4 := hm
    have rY4 := gY
    have bel4 := hbel
    clear hbel hm gY
    clear rY4
    go_wp2_with fail
    refine wp_region_held_drew (S := (fun w' => w'.cell? ⟨m, 0, none⟩ = some (.int .i64 0) ∧ w'.cell? ⟨m, 1, none⟩ = some (.int .i64 0) ∧ w'.cell? ⟨m, 2, none⟩ = some (.int .i64 0) ∧ w'.cell? ⟨m, 3, none⟩ = some (.slice a2 KS.length c2) ∧ w'.cell? ⟨m, 4, none⟩ = some (.slice b2 VS.length d2))) (by kernel_rfl) (by exact ⟨bm4.out.cl.1, bm4.out.cl.2.1, bm4.out.cl.2.2.1, bm4.out.cl.2.2.2.1, bm4.out.cl.2.2.2.2⟩) (fun hHeld => ?_)
    have hm := hid (bm4.out.drew)
    have hbel := hid (Below.drew bel4.out)
    clear bm4 bel4
    generalize w4.drew = W1 at *
    refine wpAnyH_take (i := 0) (oi := ?oi13) (v := ?v13) (fuel := 6) ?hi13 ?hs13 ?hf13 ?hr13 ?hq13 (Or.inl ⟨?hw13, ?hy13⟩) hHeld ?rest13
    case hi13 => rw [List.getElem?_toArray]; rfl
    case hq13 => exact fun _ _ _ h => h
    case hs13 | hf13 | hr13 => kernel_rfl
    case hw13 => rfl
    case hy13 => (intro w1 hSw; (try dsimp only at hSw); go_simp; try with_reducible rfl)
    (try simp only [Act.put, List.setIfInBounds_toArray, List.set_cons_zero, List.set_cons_succ])
    refine wpAnyH_take (i := 1) (oi := ?oi14) (v := ?v14) (fuel := 5) ?hi14 ?hs14 ?hf14 ?hr14 ?hq14 (Or.inl ⟨?hw14, ?hy14⟩) hHeld ?rest14
    case hi14 => rw [List.getElem?_toArray]; rfl
    case hq14 => exact fun _ _ _ h => h
    case hs14 | hf14 | hr14 => kernel_rfl
    case hw14 => rfl
    case hy14 => (intro w1 hSw; (try dsimp only at hSw); go_simp; try with_reducible rfl)
    (try simp only [Act.put, List.setIfInBounds_toArray, List.set_cons_zero, List.set_cons_succ])
    refine wpAnyH_take (i := 2) (oi := ?oi15) (v := ?v15) (fuel := 4) ?hi15 ?hs15 ?hf15 ?hr15 ?hq15 (Or.inl ⟨?hw15, ?hy15⟩) hHeld ?rest15
    case hi15 => rw [List.getElem?_toArray]; rfl
    case hq15 => exact fun _ _ _ h => h
    case hs15 | hf15 | hr15 => kernel_rfl
    case hw15 => rfl
    case hy15 => (intro w1 hSw; (try dsimp only at hSw); go_simp; try with_reducible rfl)
    (try simp only [Act.put, List.setIfInBounds_toArray, List.set_cons_zero, List.set_cons_succ])
    refine wpAnyH_take (i := 3) (oi := ?oi16) (v := ?v16) (fuel := 3) ?hi16 ?hs16 ?hf16 ?hr16 ?hq16 (Or.inl ⟨?hw16, ?hy16⟩) hHeld ?rest16
    case hi16 => rw [List.getElem?_toArray]; rfl
    case hq16 => exact fun _ _ _ h => h
    case hs16 | hf16 | hr16 => kernel_rfl
    case hw16 => rfl
    case hy16 => (intro w1 hSw; (try dsimp only at hSw); go_simp; try with_reducible rfl)
    (try simp only [Act.put, List.setIfInBounds_toArray, List.set_cons_zero, List.set_cons_succ])
    refine wpAnyH_ready (fuel := 2) (rs := [4]) (by kernel_rfl) (by simp) ?_
    refine AllReadyH.cons (o := ?oi17) ?hi17 (fun K hK => ?st17) AllReadyH.nil
    case hi17 => rw [List.getElem?_toArray]; rfl
    go_simp
    refine (snew_o k s r _).mono ?_
    rw [HT.out]
    dsimp only
    rintro ee wr4 ⟨a4, b4, c4, d4, rfl, hr, hbn⟩
    replace hm := hid (hm.out.below hbn)
    replace hbel := hid (hbel.out.to hbn)
    clear hbn
    have gZ := hid hr
    clear hr
    go_wp2_with fail
    refine hK.out _ _ ?hS17 (fun hHeld => ?re17)
    case hS17 => exact ⟨hm.out.cl.1, hm.out.cl.2.1, hm.out.cl.2.2.1, hm.out.cl.2.2.2.1, hm.out.cl.2.2.2.2⟩
    clear hK K
    (try simp only [Act.put, List.setIfInBounds_toArray, List.set_cons_zero, List.set_cons_succ])
    refine wpAnyH_ready (fuel := 1) (rs := [5]) (by kernel_rfl) (by simp) ?_
    refine AllReadyH.cons (o := ?oi18) ?hi18 (fun K hK => ?st18) AllReadyH.nil
    case hi18 => rw [List.getElem?_toArray]; rfl
    go_simp
    refine (sg_o 0 0 0 KS VS a2 b2 a4 b4 c2 d2 c4 d4 _ hm.out.rw gZ.out hKS hVS).mono ?_
    rintro ee wr5 ⟨rfl, hbn⟩
    replace hm := hid (hm.out.below hbn)
    replace gZ := hid (gZ.out.below hbn)
    replace hbel := hid (hbel.out.to hbn)
    clear hbn
    go_wp2_with fail
    refine hK.out _ _ ?hS18 (fun hHeld => ?re18)
    case hS18 => exact ⟨hm.out.cl.1, hm.out.cl.2.1, hm.out.cl.2.2.1, hm.out.cl.2.2.2.1, hm.out.cl.2.2.2.2⟩
    clear hK K
    (try simp only [Act.put, List.setIfInBounds_toArray, List.set_cons_zero, List.set_cons_succ])
    refine wpAnyH_take (i := 6) (oi := ?oi19) (v := ?v19) (fuel := 0) ?hi19 ?hs19 ?hf19 ?hr19 ?hq19 (Or.inl ⟨?hw19, ?hy19⟩) hHeld ?rest19
    case hi19 => rw [List.getElem?_toArray]; rfl
    case hq19 => exact fun _ _ _ h => h
    case hs19 | hf19 | hr19 => kernel_rfl
    case hw19 => rfl
    case hy19 => (intro w1 hSw; (try dsimp only at hSw); go_simp; try with_reducible rfl)
    (try simp only [Act.put, List.setIfInBounds_toArray, List.set_cons_zero, List.set_cons_succ])
    refine wpAnyH_done (by kernel_rfl) ?_ _
    clear hHeld
    generalize wr5 = w5 at *
    have bm5 := hm
    have rZ5 := gZ
    have bel5 := hbel
    clear hbel hm gZ
    go_wp2_with fail
    go_ret
    exact ⟨rfl, bel5.out⟩
  have hsh2 := hsh
  simp only [shapeB, Bool.and_eq_true] at hsh2
  obtain ⟨⟨h1, h2⟩, h3⟩ := hsh2
  have h1' := h1
  have h2' := h2
  have h3' := h3
  simp only [inB, Bool.and_eq_true, decide_eq_true_eq] at h1' h2' h3'
  have hk : k = 1 ∨ k = 2 := by omega
  rcases hk with rfl | rfl
  · obtain ⟨KS, eKS⟩ : ∃ x, x = keysN r.toNat := ⟨_, rfl⟩
    obtain ⟨z, ez⟩ : ∃ x, x = zerosB s.toNat := ⟨_, rfl⟩
    obtain ⟨VS, eVS⟩ : ∃ x, x = List.replicate r.toNat z := ⟨_, rfl⟩
    have HT : Hid (newT 1 s r = ⟨1, s, r, KS, VS, 0⟩) := by show newT 1 s r = _; rw [eKS, eVS, ez]; unfold newT; rw [hsh]; rfl
    have hP : OkP 1 s r KS VS := by rw [eKS, eVS, ez]; exact new_row s r h2 h3
    have HOK : Hid (okB 1 s r KS VS = true) := okB_true.2 hP
    have hsz : (z.size : Int) = s := by rw [ez, zerosB_size]; omega
    have HL : Hid (∀ j : Nat, j < r.toNat → lookT 1 s r KS VS j = (z, true)) := by
      intro j hj
      have hjk : j < KS.length := by rw [eKS, keysN_length]; exact hj
      have hn : KS.length = VS.length := by rw [eKS, eVS, keysN_length, List.length_replicate]
      have hat : ∀ i (h : i < KS.length), KS[i] = (i : Int) := by intro i h; subst eKS; exact keysN_at _ _ _
      unfold lookT
      rw [if_pos (okB_true.2 hP), look_there hn hjk (by rw [hat]; simp) (fun i h hi => by rw [hat]; simp; omega)]
      simp [eVS]
    have hKS : KS.length ≤ 1048576 := by rw [eKS, keysN_length]; omega
    have hVS : VS.length ≤ 1048576 := by rw [eVS, List.length_replicate]; omega
    clear eKS eVS hsh hP ez h1 h2 h3
    refine (new_o 1 s r _).mono ?_
    rw [HT.out]
    dsimp only
    rintro e w2 ⟨a2, b2, c2, d2, rfl, hr, hb2⟩
    have bel2 := hid (bel1.out.to hb2)
    clear bel1 hb2
    have rV2 := hid hr
    clear hr
    go_wp2_with fail
    have bm3 := hid (TB.new rV2.out 1 s r)
    have bel3 := hid (bel2.out.alloc bel2.out.size (.cells #[.int .i64 1, .int .i64 s, .int .i64 r, .slice a2 KS.length c2, .slice b2 VS.length d2] 28))
    have lem := bel2.out.size
    clear rV2 bel2
    generalize w2.alloc (.cells #[.int .i64 1, .int .i64 s, .int .i64 r, .slice a2 KS.length c2, .slice b2 VS.length d2] 28) = w3 at *
    generalize w2.heap.size = m at *
    refine wp_region_held_drew (S := (fun w' => w'.cell? ⟨m, 0, none⟩ = some (.int .i64 1) ∧ w'.cell? ⟨m, 1, none⟩ = some (.int .i64 s) ∧ w'.cell? ⟨m, 2, none⟩ = some (.int .i64 r) ∧ w'.cell? ⟨m, 3, none⟩ = some (.slice a2 KS.length c2) ∧ w'.cell? ⟨m, 4, none⟩ = some (.slice b2 VS.length d2))) (by kernel_rfl) (by exact ⟨bm3.out.cl.1, bm3.out.cl.2.1, bm3.out.cl.2.2.1, bm3.out.cl.2.2.2.1, bm3.out.cl.2.2.2.2⟩) (fun hHeld => ?_)
    have hm := hid (bm3.out.drew)
    have hbel := hid (Below.drew bel3.out)
    clear bm3 bel3
    generalize w3.drew = W1 at *
    refine wpAnyH_take (i := 0) (oi := ?oi20) (v := ?v20) (fuel := 11) ?hi20 ?hs20 ?hf20 ?hr20 ?hq20 (Or.inl ⟨?hw20, ?hy20⟩) hHeld ?rest20
    case hi20 => rw [List.getElem?_toArray]; rfl
    case hq20 => exact fun _ _ _ h => h
    case hs20 | hf20 | hr20 => kernel_rfl
    case hw20 => rfl
    case hy20 => (intro w1 hSw; (try dsimp only at hSw); go_simp; try with_reducible rfl)
    (try simp only [Act.put, List.setIfInBounds_toArray, List.set_cons_zero, List.set_cons_succ])
    refine wpAnyH_take (i := 1) (oi := ?oi21) (v := ?v21) (fuel := 10) ?hi21 ?hs21 ?hf21 ?hr21 ?hq21 (Or.inl ⟨?hw21, ?hy21⟩) hHeld ?rest21
    case hi21 => rw [List.getElem?_toArray]; rfl
    case hq21 => exact fun _ _ _ h => h
    case hs21 | hf21 | hr21 => kernel_rfl
    case hw21 => rfl
    case hy21 => (intro w1 hSw; (try dsimp only at hSw); go_simp; try with_reducible rfl)
    (try simp only [Act.put, List.setIfInBounds_toArray, List.set_cons_zero, List.set_cons_succ])
    refine wpAnyH_take (i := 2) (oi := ?oi22) (v := ?v22) (fuel := 9) ?hi22 ?hs22 ?hf22 ?hr22 ?hq22 (Or.inl ⟨?hw22, ?hy22⟩) hHeld ?rest22
    case hi22 => rw [List.getElem?_toArray]; rfl
    case hq22 => exact fun _ _ _ h => h
    case hs22 | hf22 | hr22 => kernel_rfl
    case hw22 => rfl
    case hy22 => (intro w1 hSw; (try dsimp only at hSw); go_simp; try with_reducible rfl)
    (try simp only [Act.put, List.setIfInBounds_toArray, List.set_cons_zero, List.set_cons_succ])
    refine wpAnyH_take (i := 3) (oi := ?oi23) (v := ?v23) (fuel := 8) ?hi23 ?hs23 ?hf23 ?hr23 ?hq23 (Or.inl ⟨?hw23, ?hy23⟩) hHeld ?rest23
    case hi23 => rw [List.getElem?_toArray]; rfl
    case hq23 => exact fun _ _ _ h => h
    case hs23 | hf23 | hr23 => kernel_rfl
    case hw23 => rfl
    case hy23 => (intro w1 hSw; (try dsimp only at hSw); go_simp; try with_reducible rfl)
    (try simp only [Act.put, List.setIfInBounds_toArray, List.set_cons_zero, List.set_cons_succ])
    refine wpAnyH_ready (fuel := 7) (rs := [4]) (by kernel_rfl) (by simp) ?_
    refine AllReadyH.cons (o := ?oi24) ?hi24 (fun K hK => ?st24) AllReadyH.nil
    case hi24 => rw [List.getElem?_toArray]; rfl
    go_simp
    refine (snew_o 1 s r _).mono ?_
    rw [HT.out]
    dsimp only
    rintro ee wr4 ⟨a3, b3, c3, d3, rfl, hr, hbn⟩
    replace hm := hid (hm.out.below hbn)
    replace hbel := hid (hbel.out.to hbn)
    clear hbn
    have gY := hid hr
    clear hr
    go_wp2_with fail
    refine hK.out _ _ ?hS24 (fun hHeld => ?re24)
    case hS24 => exact ⟨hm.out.cl.1, hm.out.cl.2.1, hm.out.cl.2.2.1, hm.out.cl.2.2.2.1, hm.out.cl.2.2.2.2⟩
    clear hK K
    (try simp only [Act.put, List.setIfInBounds_toArray, List.set_cons_zero, List.set_cons_succ])
    refine wpAnyH_ready (fuel := 6) (rs := [5]) (by kernel_rfl) (by simp) ?_
    refine AllReadyH.cons (o := ?oi25) ?hi25 (fun K hK => ?st25) AllReadyH.nil
    case hi25 => rw [List.getElem?_toArray]; rfl
    go_simp
    refine (sg_o 1 s r KS VS a2 b2 a3 b3 c2 d2 c3 d3 _ hm.out.rw gY.out hKS hVS).mono ?_
    rintro ee wr5 ⟨rfl, hbn⟩
    replace hm := hid (hm.out.below hbn)
    replace gY := hid (gY.out.below hbn)
    replace hbel := hid (hbel.out.to hbn)
    clear hbn
    go_wp2_with fail
    refine hK.out _ _ ?hS25 (fun hHeld => ?re25)
    case hS25 => exact ⟨hm.out.cl.1, hm.out.cl.2.1, hm.out.cl.2.2.1, hm.out.cl.2.2.2.1, hm.out.cl.2.2.2.2⟩
    clear hK K
    (try simp only [Act.put, List.setIfInBounds_toArray, List.set_cons_zero, List.set_cons_succ])
    refine wpAnyH_take (i := 6) (oi := ?oi26) (v := ?v26) (fuel := 5) ?hi26 ?hs26 ?hf26 ?hr26 ?hq26 (Or.inl ⟨?hw26, ?hy26⟩) hHeld ?rest26
    case hi26 => rw [List.getElem?_toArray]; rfl
    case hq26 => exact fun _ _ _ h => h
    case hs26 | hf26 | hr26 => kernel_rfl
    case hw26 => rfl
    case hy26 => (intro w1 hSw; (try dsimp only at hSw); go_simp; try with_reducible rfl)
    (try simp only [Act.put, List.setIfInBounds_toArray, List.set_cons_zero, List.set_cons_succ])
    refine wpAnyH_take (i := 7) (oi := ?oi27) (v := ?v27) (fuel := 4) ?hi27 ?hs27 ?hf27 ?hr27 ?hq27 (Or.inl ⟨?hw27, ?hy27⟩) hHeld ?rest27
    case hi27 => rw [List.getElem?_toArray]; rfl
    case hq27 => exact fun _ _ _ h => h
    case hs27 | hf27 | hr27 => kernel_rfl
    case hw27 => rfl
    case hy27 => (intro w1 hSw; (try dsimp only at hSw); go_simp; try with_reducible rfl)
    (try simp only [Act.put, List.setIfInBounds_toArray, List.set_cons_zero, List.set_cons_succ])
    refine wpAnyH_take (i := 8) (oi := ?oi28) (v := ?v28) (fuel := 3) ?hi28 ?hs28 ?hf28 ?hr28 ?hq28 (Or.inl ⟨?hw28, ?hy28⟩) hHeld ?rest28
    case hi28 => rw [List.getElem?_toArray]; rfl
    case hq28 => exact fun _ _ _ h => h
    case hs28 | hf28 | hr28 => kernel_rfl
    case hw28 => rfl
    case hy28 => (intro w1 hSw; (try dsimp only at hSw); go_simp; try with_reducible rfl)
    (try simp only [Act.put, List.setIfInBounds_toArray, List.set_cons_zero, List.set_cons_succ])
    refine wpAnyH_take (i := 9) (oi := ?oi29) (v := ?v29) (fuel := 2) ?hi29 ?hs29 ?hf29 ?hr29 ?hq29 (Or.inl ⟨?hw29, ?hy29⟩) hHeld ?rest29
    case hi29 => rw [List.getElem?_toArray]; rfl
    case hq29 => exact fun _ _ _ h => h
    case hs29 | hf29 | hr29 => kernel_rfl
    case hw29 => rfl
    case hy29 => (intro w1 hSw; (try dsimp only at hSw); go_simp; try with_reducible rfl)
    (try simp only [Act.put, List.setIfInBounds_toArray, List.set_cons_zero, List.set_cons_succ])
    refine wpAnyH_take (i := 10) (oi := ?oi30) (v := ?v30) (fuel := 1) ?hi30 ?hs30 ?hf30 ?hr30 ?hq30 (Or.inl ⟨?hw30, ?hy30⟩) hHeld ?rest30
    case hi30 => rw [List.getElem?_toArray]; rfl
    case hq30 => exact fun _ _ _ h => h
    case hs30 | hf30 | hr30 => kernel_rfl
    case hw30 => rfl
    case hy30 => (intro w1 hSw; (try dsimp only at hSw); go_simp; try with_reducible rfl)
    (try simp only [Act.put, List.setIfInBounds_toArray, List.set_cons_zero, List.set_cons_succ])
    refine wpAnyH_take (i := 11) (oi := ?oi31) (v := ?v31) (fuel := 0) ?hi31 ?hs31 ?hf31 ?hr31 ?hq31 (Or.inl ⟨?hw31, ?hy31⟩) hHeld ?rest31
    case hi31 => rw [List.getElem?_toArray]; rfl
    case hq31 => exact fun _ _ _ h => h
    case hs31 | hf31 | hr31 => kernel_rfl
    case hw31 => rfl
    case hy31 => (intro w1 hSw; (try dsimp only at hSw); go_simp; try with_reducible rfl)
    (try simp only [Act.put, List.setIfInBounds_toArray, List.set_cons_zero, List.set_cons_succ])
    refine wpAnyH_done (by kernel_rfl) ?_ _
    clear hHeld
    generalize wr5 = w4 at *
    have bm4 := hm
    have rY4 := gY
    have bel4 := hbel
    clear hbel hm gY
    clear rY4
    go_wp2_with fail
    go_loopw [7] (fun i wr => ∃ j : Nat, j ≤ r.toNat ∧ i = .int .i64 j ∧ TB wr m 1 s r KS VS a2 b2 c2 d2 ∧ Below w.heap.size w wr) (fun i _ => r.toNat - (intOf i).toNat)
    case atStart => exact ⟨0, Nat.zero_le _, rfl, bm4.out, bel4.out⟩
    case round =>
      clear bm4 bel4
      obtain ⟨j, hj, rfl, hbm, hbel⟩ := hrel
      have bm4 := hid hbm
      have bel4 := hid hbel
      clear hbm hbel
      generalize wr = w4 at *
      obtain ⟨cm0, cm1, cm2, cm3, cm4⟩ := bm4.out.cl
      have cml := bm4.out.lt
      by_cases hlt : j < r.toNat
      · have hlt' : (j : Int) < r := by omega
        go_wp2_with fail
        clear cm0 cm1 cm2 cm3 cm4 cml
        refine (look_o 1 s r KS VS a2 b2 c2 d2 j _ bm4.out.rw hKS hVS).mono ?_
        rw [HL.out j hlt]
        dsimp only
        rintro e w5 ⟨rfl, hb5⟩
        have bm5 := hid (bm4.out.below hb5)
        have bel5 := hid (bel4.out.to hb5)
        clear bm4 bel4 hb5
        obtain ⟨cm0, cm1, cm2, cm3, cm4⟩ := bm5.out.cl
        have cml := bm5.out.lt
        go_wp2_with fail
        clear cm0 cm1 cm2 cm3 cm4 cml
        go_roundw
        case rel => exact ⟨j + 1, by omega, by go_num, bm5.out, bel5.out⟩
        case measure => simp [intOf]; omega
      · have hlt' : ¬ ((j : Int) < r) := by omega
        go_wp2_with fail
        clear cm0 cm1 cm2 cm3 cm4 cml
        refine (ok_o 1 s r KS VS a2 b2 c2 d2 _ bm4.out.rw hKS hVS).mono ?_
        rw [HOK.out]
        rintro e w5 ⟨rfl, hb5⟩
        have bm5 := hid (bm4.out.below hb5)
        have bel5 := hid (bel4.out.to hb5)
        clear bm4 bel4 hb5
        obtain ⟨cm0, cm1, cm2, cm3, cm4⟩ := bm5.out.cl
        have cml := bm5.out.lt
        go_wp2_with fail
        clear cm0 cm1 cm2 cm3 cm4 cml
        go_ret
        exact ⟨rfl, bel5.out⟩
  · obtain ⟨KS, eKS⟩ : ∃ x : List Int, x = [] := ⟨_, rfl⟩
    obtain ⟨VS, eVS⟩ : ∃ x : List ByteArray, x = [] := ⟨_, rfl⟩
    have HT : Hid (newT 2 s r = ⟨2, s, r, KS, VS, 0⟩) := by show newT 2 s r = _; rw [eKS, eVS]; unfold newT; rw [hsh]; rfl
    have hP : OkP 2 s r KS VS := by rw [eKS, eVS]; exact new_hash s r h2 h3
    have HOK : Hid (okB 2 s r KS VS = true) := okB_true.2 hP
    have HL : Hid (∀ j : Nat, j < r.toNat → lookT 2 s r KS VS j = (⟨#[]⟩, false)) := by
      intro j hj
      unfold lookT
      rw [if_pos (okB_true.2 hP), look_not (fun i h => by subst eKS; simp at h)]
    have hKS : KS.length ≤ 1048576 := by rw [eKS]; simp
    have hVS : VS.length ≤ 1048576 := by rw [eVS]; simp
    clear eKS eVS hsh hP h1 h2 h3
    refine (new_o 2 s r _).mono ?_
    rw [HT.out]
    dsimp only
    rintro e w2 ⟨a2, b2, c2, d2, rfl, hr, hb2⟩
    have bel2 := hid (bel1.out.to hb2)
    clear bel1 hb2
    have rV2 := hid hr
    clear hr
    go_wp2_with fail
    have bm3 := hid (TB.new rV2.out 2 s r)
    have bel3 := hid (bel2.out.alloc bel2.out.size (.cells #[.int .i64 2, .int .i64 s, .int .i64 r, .slice a2 KS.length c2, .slice b2 VS.length d2] 28))
    have lem := bel2.out.size
    clear rV2 bel2
    generalize w2.alloc (.cells #[.int .i64 2, .int .i64 s, .int .i64 r, .slice a2 KS.length c2, .slice b2 VS.length d2] 28) = w3 at *
    generalize w2.heap.size = m at *
    refine wp_region_held_drew (S := (fun w' => w'.cell? ⟨m, 0, none⟩ = some (.int .i64 2) ∧ w'.cell? ⟨m, 1, none⟩ = some (.int .i64 s) ∧ w'.cell? ⟨m, 2, none⟩ = some (.int .i64 r) ∧ w'.cell? ⟨m, 3, none⟩ = some (.slice a2 KS.length c2) ∧ w'.cell? ⟨m, 4, none⟩ = some (.slice b2 VS.length d2))) (by kernel_rfl) (by exact ⟨bm3.out.cl.1, bm3.out.cl.2.1, bm3.out.cl.2.2.1, bm3.out.cl.2.2.2.1, bm3.out.cl.2.2.2.2⟩) (fun hHeld => ?_)
    have hm := hid (bm3.out.drew)
    have hbel := hid (Below.drew bel3.out)
    clear bm3 bel3
    generalize w3.drew = W1 at *
    refine wpAnyH_take (i := 0) (oi := ?oi32) (v := ?v32) (fuel := 11) ?hi32 ?hs32 ?hf32 ?hr32 ?hq32 (Or.inl ⟨?hw32, ?hy32⟩) hHeld ?rest32
    case hi32 => rw [List.getElem?_toArray]; rfl
    case hq32 => exact fun _ _ _ h => h
    case hs32 | hf32 | hr32 => kernel_rfl
    case hw32 => rfl
    case hy32 => (intro w1 hSw; (try dsimp only at hSw); go_simp; try with_reducible rfl)
    (try simp only [Act.put, List.setIfInBounds_toArray, List.set_cons_zero, List.set_cons_succ])
    refine wpAnyH_take (i := 1) (oi := ?oi33) (v := ?v33) (fuel := 10) ?hi33 ?hs33 ?hf33 ?hr33 ?hq33 (Or.inl ⟨?hw33, ?hy33⟩) hHeld ?rest33
    case hi33 => rw [List.getElem?_toArray]; rfl
    case hq33 => exact fun _ _ _ h => h
    case hs33 | hf33 | hr33 => kernel_rfl
    case hw33 => rfl
    case hy33 => (intro w1 hSw; (try dsimp only at hSw); go_simp; try with_reducible rfl)
    (try simp only [Act.put, List.setIfInBounds_toArray, List.set_cons_zero, List.set_cons_succ])
    refine wpAnyH_take (i := 2) (oi := ?oi34) (v := ?v34) (fuel := 9) ?hi34 ?hs34 ?hf34 ?hr34 ?hq34 (Or.inl ⟨?hw34, ?hy34⟩) hHeld ?rest34
    case hi34 => rw [List.getElem?_toArray]; rfl
    case hq34 => exact fun _ _ _ h => h
    case hs34 | hf34 | hr34 => kernel_rfl
    case hw34 => rfl
    case hy34 => (intro w1 hSw; (try dsimp only at hSw); go_simp; try with_reducible rfl)
    (try simp only [Act.put, List.setIfInBounds_toArray, List.set_cons_zero, List.set_cons_succ])
    refine wpAnyH_take (i := 3) (oi := ?oi35) (v := ?v35) (fuel := 8) ?hi35 ?hs35 ?hf35 ?hr35 ?hq35 (Or.inl ⟨?hw35, ?hy35⟩) hHeld ?rest35
    case hi35 => rw [List.getElem?_toArray]; rfl
    case hq35 => exact fun _ _ _ h => h
    case hs35 | hf35 | hr35 => kernel_rfl
    case hw35 => rfl
    case hy35 => (intro w1 hSw; (try dsimp only at hSw); go_simp; try with_reducible rfl)
    (try simp only [Act.put, List.setIfInBounds_toArray, List.set_cons_zero, List.set_cons_succ])
    refine wpAnyH_ready (fuel := 7) (rs := [4]) (by kernel_rfl) (by simp) ?_
    refine AllReadyH.cons (o := ?oi36) ?hi36 (fun K hK => ?st36) AllReadyH.nil
    case hi36 => rw [List.getElem?_toArray]; rfl
    go_simp
    refine (snew_o 2 s r _).mono ?_
    rw [HT.out]
    dsimp only
    rintro ee wr4 ⟨a3, b3, c3, d3, rfl, hr, hbn⟩
    replace hm := hid (hm.out.below hbn)
    replace hbel := hid (hbel.out.to hbn)
    clear hbn
    have gY := hid hr
    clear hr
    go_wp2_with fail
    refine hK.out _ _ ?hS36 (fun hHeld => ?re36)
    case hS36 => exact ⟨hm.out.cl.1, hm.out.cl.2.1, hm.out.cl.2.2.1, hm.out.cl.2.2.2.1, hm.out.cl.2.2.2.2⟩
    clear hK K
    (try simp only [Act.put, List.setIfInBounds_toArray, List.set_cons_zero, List.set_cons_succ])
    refine wpAnyH_ready (fuel := 6) (rs := [5]) (by kernel_rfl) (by simp) ?_
    refine AllReadyH.cons (o := ?oi37) ?hi37 (fun K hK => ?st37) AllReadyH.nil
    case hi37 => rw [List.getElem?_toArray]; rfl
    go_simp
    refine (sg_o 2 s r KS VS a2 b2 a3 b3 c2 d2 c3 d3 _ hm.out.rw gY.out hKS hVS).mono ?_
    rintro ee wr5 ⟨rfl, hbn⟩
    replace hm := hid (hm.out.below hbn)
    replace gY := hid (gY.out.below hbn)
    replace hbel := hid (hbel.out.to hbn)
    clear hbn
    go_wp2_with fail
    refine hK.out _ _ ?hS37 (fun hHeld => ?re37)
    case hS37 => exact ⟨hm.out.cl.1, hm.out.cl.2.1, hm.out.cl.2.2.1, hm.out.cl.2.2.2.1, hm.out.cl.2.2.2.2⟩
    clear hK K
    (try simp only [Act.put, List.setIfInBounds_toArray, List.set_cons_zero, List.set_cons_succ])
    refine wpAnyH_take (i := 6) (oi := ?oi38) (v := ?v38) (fuel := 5) ?hi38 ?hs38 ?hf38 ?hr38 ?hq38 (Or.inl ⟨?hw38, ?hy38⟩) hHeld ?rest38
    case hi38 => rw [List.getElem?_toArray]; rfl
    case hq38 => exact fun _ _ _ h => h
    case hs38 | hf38 | hr38 => kernel_rfl
    case hw38 => rfl
    case hy38 => (intro w1 hSw; (try dsimp only at hSw); go_simp; try with_reducible rfl)
    (try simp only [Act.put, List.setIfInBounds_toArray, List.set_cons_zero, List.set_cons_succ])
    refine wpAnyH_take (i := 7) (oi := ?oi39) (v := ?v39) (fuel := 4) ?hi39 ?hs39 ?hf39 ?hr39 ?hq39 (Or.inl ⟨?hw39, ?hy39⟩) hHeld ?rest39
    case hi39 => rw [List.getElem?_toArray]; rfl
    case hq39 => exact fun _ _ _ h => h
    case hs39 | hf39 | hr39 => kernel_rfl
    case hw39 => rfl
    case hy39 => (intro w1 hSw; (try dsimp only at hSw); go_simp; try with_reducible rfl)
    (try simp only [Act.put, List.setIfInBounds_toArray, List.set_cons_zero, List.set_cons_succ])
    refine wpAnyH_take (i := 8) (oi := ?oi40) (v := ?v40) (fuel := 3) ?hi40 ?hs40 ?hf40 ?hr40 ?hq40 (Or.inl ⟨?hw40, ?hy40⟩) hHeld ?rest40
    case hi40 => rw [List.getElem?_toArray]; rfl
    case hq40 => exact fun _ _ _ h => h
    case hs40 | hf40 | hr40 => kernel_rfl
    case hw40 => rfl
    case hy40 => (intro w1 hSw; (try dsimp only at hSw); go_simp; try with_reducible rfl)
    (try simp only [Act.put, List.setIfInBounds_toArray, List.set_cons_zero, List.set_cons_succ])
    refine wpAnyH_take (i := 9) (oi := ?oi41) (v := ?v41) (fuel := 2) ?hi41 ?hs41 ?hf41 ?hr41 ?hq41 (Or.inl ⟨?hw41, ?hy41⟩) hHeld ?rest41
    case hi41 => rw [List.getElem?_toArray]; rfl
    case hq41 => exact fun _ _ _ h => h
    case hs41 | hf41 | hr41 => kernel_rfl
    case hw41 => rfl
    case hy41 => (intro w1 hSw; (try dsimp only at hSw); go_simp; try with_reducible rfl)
    (try simp only [Act.put, List.setIfInBounds_toArray, List.set_cons_zero, List.set_cons_succ])
    refine wpAnyH_take (i := 10) (oi := ?oi42) (v := ?v42) (fuel := 1) ?hi42 ?hs42 ?hf42 ?hr42 ?hq42 (Or.inl ⟨?hw42, ?hy42⟩) hHeld ?rest42
    case hi42 => rw [List.getElem?_toArray]; rfl
    case hq42 => exact fun _ _ _ h => h
    case hs42 | hf42 | hr42 => kernel_rfl
    case hw42 => rfl
    case hy42 => (intro w1 hSw; (try dsimp only at hSw); go_simp; try with_reducible rfl)
    (try simp only [Act.put, List.setIfInBounds_toArray, List.set_cons_zero, List.set_cons_succ])
    refine wpAnyH_take (i := 11) (oi := ?oi43) (v := ?v43) (fuel := 0) ?hi43 ?hs43 ?hf43 ?hr43 ?hq43 (Or.inl ⟨?hw43, ?hy43⟩) hHeld ?rest43
    case hi43 => rw [List.getElem?_toArray]; rfl
    case hq43 => exact fun _ _ _ h => h
    case hs43 | hf43 | hr43 => kernel_rfl
    case hw43 => rfl
    case hy43 => (intro w1 hSw; (try dsimp only at hSw); go_simp; try with_reducible rfl)
    (try simp only [Act.put, List.setIfInBounds_toArray, List.set_cons_zero, List.set_cons_succ])
    refine wpAnyH_done (by kernel_rfl) ?_ _
    clear hHeld
    generalize wr5 = w4 at *
    have bm4 := hm
    have rY4 := gY
    have bel4 := hbel
    clear hbel hm gY
    clear rY4
    go_wp2_with fail
    go_loopw [7] (fun i wr => ∃ j : Nat, j ≤ r.toNat ∧ i = .int .i64 j ∧ TB wr m 2 s r KS VS a2 b2 c2 d2 ∧ Below w.heap.size w wr) (fun i _ => r.toNat - (intOf i).toNat)
    case atStart => exact ⟨0, Nat.zero_le _, rfl, bm4.out, bel4.out⟩
    case round =>
      clear bm4 bel4
      obtain ⟨j, hj, rfl, hbm, hbel⟩ := hrel
      have bm4 := hid hbm
      have bel4 := hid hbel
      clear hbm hbel
      generalize wr = w4 at *
      obtain ⟨cm0, cm1, cm2, cm3, cm4⟩ := bm4.out.cl
      have cml := bm4.out.lt
      by_cases hlt : j < r.toNat
      · have hlt' : (j : Int) < r := by omega
        go_wp2_with fail
        clear cm0 cm1 cm2 cm3 cm4 cml
        refine (look_o 2 s r KS VS a2 b2 c2 d2 j _ bm4.out.rw hKS hVS).mono ?_
        rw [HL.out j hlt]
        dsimp only
        rintro e w5 ⟨rfl, hb5⟩
        have bm5 := hid (bm4.out.below hb5)
        have bel5 := hid (bel4.out.to hb5)
        clear bm4 bel4 hb5
        obtain ⟨cm0, cm1, cm2, cm3, cm4⟩ := bm5.out.cl
        have cml := bm5.out.lt
        go_wp2_with fail
        clear cm0 cm1 cm2 cm3 cm4 cml
        go_roundw
        case rel => exact ⟨j + 1, by omega, by go_num, bm5.out, bel5.out⟩
        case measure => simp [intOf]; omega
      · have hlt' : ¬ ((j : Int) < r) := by omega
        go_wp2_with fail
        clear cm0 cm1 cm2 cm3 cm4 cml
        refine (ok_o 2 s r KS VS a2 b2 c2 d2 _ bm4.out.rw hKS hVS).mono ?_
        rw [HOK.out]
        rintro e w5 ⟨rfl, hb5⟩
        have bm5 := hid (bm4.out.below hb5)
        have bel5 := hid (bel4.out.to hb5)
        clear bm4 bel4 hb5
        obtain ⟨cm0, cm1, cm2, cm3, cm4⟩ := bm5.out.cl
        have cml := bm5.out.lt
        go_wp2_with fail
        clear cm0 cm1 cm2 cm3 cm4 cml
        go_ret
        exact ⟨rfl, bel5.out⟩
end Go.Proofs.Ytahbicegmioplaa
