/- The law of TablePut, drawn. -/
import Derived.Test.YtahbicegmioplaaPF
namespace Go.Proofs.Ytahbicegmioplaa
open Go.RowKit
set_option linter.unusedVariables false
set_option linter.unusedSimpArgs false


theorem Src.below {w w' : World} {a : Option Addr} {len : Nat} (h : Src w a len) (hb : Below w.heap.size w w') : Src w' a len := by
  rcases h with h | ⟨g, off, ha, hg, hc⟩
  · exact .inl h
  · refine .inr ⟨g, off, ha, Nat.lt_of_lt_of_le hg hb.size, fun j hj => ?_⟩
    obtain ⟨v, hv, hcv⟩ := hc j hj
    exact ⟨v, hv, (hb.cell (p := ⟨g, off + j, none⟩) hg).trans hcv⟩

set_option maxRecDepth 100000 in
set_option maxHeartbeats 4000000 in
theorem law_fnTablePut (w : World) (a : Option Addr) (len cap : Nat) (hc : len ≤ cap) (hs : Src w a len) (hl : cap < 2 ^ 63) (a2 : Option Addr) (len2 cap2 : Nat) (hc2 : len2 ≤ cap2) (hs2 : Src w a2 len2) (hl2 : cap2 < 2 ^ 63) :
    Calls Try.prog 4 #[.slice a len cap, .slice a2 len2 cap2] w fun e w' => e = .returned (.bool true) ∧ Below w.heap.size w w' := by
  have HS := hid hs
  have HS2 := hid hs2
  clear hs hs2
  by_cases hbig : (len : Int) > 1048576
  · go_enter Try.func4, Try.ntmps4
    go_wp2_with fail
    go_ret
    exact ⟨rfl, Below.refl _ _⟩
  by_cases hbig2 : (len2 : Int) > 1048576
  · go_enter Try.func4, Try.ntmps4
    go_wp2_with fail
    go_ret
    exact ⟨rfl, Below.refl _ _⟩
  go_enter Try.func4, Try.ntmps4
  go_wp2_with fail
  refine (drawPut_s w a len cap hc HS.out hl).mono ?_
  rintro e w1 ⟨k, s, r, ks, vs, a1, b1, c1, d1, key, val, rfl, hr, hk0, hv0, hval0, hb1⟩
  have bel1 := hid hb1
  have rT1 := hid hr
  have hk : ks.length ≤ 1048576 := by omega
  have hv : vs.length ≤ 1048576 := by omega
  have hval : val.size ≤ 1048576 := by omega
  clear hb1 hr
  cases hok : okB k s r ks vs
  · have HOK := hid hok
    obtain ⟨KS, eKS⟩ : ∃ x : List Int, x = [] := ⟨_, rfl⟩
    obtain ⟨VS, eVS⟩ : ∃ x : List ByteArray, x = [] := ⟨_, rfl⟩
    have HP : Hid (putT k s r ks vs key val = ⟨0, 0, 0, KS, VS, 1⟩) := by show putT k s r ks vs key val = _; rw [eKS, eVS]; unfold putT; rw [hok]; rfl
    have hKS : KS.length ≤ 1048576 := by rw [eKS]; simp
    have hVS : VS.length ≤ 1048576 := by rw [eVS]; simp
    clear hok eKS eVS
    go_wp2_with fail
    have bm2 := hid (TB.new rT1.out k s r)
    have bel2 := hid (bel1.out.alloc bel1.out.size (.cells #[.int .i64 k, .int .i64 s, .int .i64 r, .slice a1 ks.length c1, .slice b1 vs.length d1] 28))
    have lem := bel1.out.size
    clear rT1 bel1
    generalize w1.alloc (.cells #[.int .i64 k, .int .i64 s, .int .i64 r, .slice a1 ks.length c1, .slice b1 vs.length d1] 28) = w2 at *
    generalize w1.heap.size = m at *
    refine (put_o k s r ks vs a1 b1 c1 d1 key val hval _ bm2.out.rw hk hv).mono ?_
    rw [HP.out]
    dsimp only
    rintro e w3 ⟨a3, b3, c3, d3, rfl, hr, hb3⟩
    have bm3 := hid (bm2.out.below hb3)
    have bel3 := hid (bel2.out.to hb3)
    clear bm2 bel2 hb3
    have rX3 := hid hr
    clear hr
    obtain ⟨cm0, cm1, cm2, cm3, cm4⟩ := bm3.out.cl
    have cml := bm3.out.lt
    go_wp2_with fail
    clear cm0 cm1 cm2 cm3 cm4 cml
    have bx4 := hid (TB.new rX3.out 0 0 0)
    have bm4 := hid (bm3.out.alloc (.cells #[.int .i64 0, .int .i64 0, .int .i64 0, .slice a3 KS.length c3, .slice b3 VS.length d3] 28))
    have bel4 := hid (bel3.out.alloc bel3.out.size (.cells #[.int .i64 0, .int .i64 0, .int .i64 0, .slice a3 KS.length c3, .slice b3 VS.length d3] 28))
    have lex := bel3.out.size
    clear bm3 rX3 bel3
    generalize w3.alloc (.cells #[.int .i64 0, .int .i64 0, .int .i64 0, .slice a3 KS.length c3, .slice b3 VS.length d3] 28) = w4 at *
    generalize w3.heap.size = x at *
    refine (sput_o k s r ks vs a1 b1 c1 d1 key val hval _ bm4.out.rw hk hv).mono ?_
    rw [HP.out]
    dsimp only
    rintro e w5 ⟨a4, b4, c4, d4, rfl, hr, hb5⟩
    have bm5 := hid (bm4.out.below hb5)
    have bx5 := hid (bx4.out.below hb5)
    have bel5 := hid (bel4.out.to hb5)
    clear bm4 bx4 bel4 hb5
    have rY5 := hid hr
    clear hr
    obtain ⟨cm0, cm1, cm2, cm3, cm4⟩ := bm5.out.cl
    have cml := bm5.out.lt
    obtain ⟨cx0, cx1, cx2, cx3, cx4⟩ := bx5.out.cl
    have cxl := bx5.out.lt
    go_wp2_with fail
    clear cm0 cm1 cm2 cm3 cm4 cml cx0 cx1 cx2 cx3 cx4 cxl
    have by6 := hid (TB.new rY5.out 0 0 0)
    have bm6 := hid (bm5.out.alloc (.cells #[.int .i64 0, .int .i64 0, .int .i64 0, .slice a4 KS.length c4, .slice b4 VS.length d4] 28))
    have bx6 := hid (bx5.out.alloc (.cells #[.int .i64 0, .int .i64 0, .int .i64 0, .slice a4 KS.length c4, .slice b4 VS.length d4] 28))
    have bel6 := hid (bel5.out.alloc bel5.out.size (.cells #[.int .i64 0, .int .i64 0, .int .i64 0, .slice a4 KS.length c4, .slice b4 VS.length d4] 28))
    have ley := bel5.out.size
    clear bm5 bx5 rY5 bel5
    generalize w5.alloc (.cells #[.int .i64 0, .int .i64 0, .int .i64 0, .slice a4 KS.length c4, .slice b4 VS.length d4] 28) = w6 at *
    generalize w5.heap.size = y at *
    refine wp_region_held_drew (S := (fun w' => w'.cell? ⟨m, 0, none⟩ = some (.int .i64 k) ∧ w'.cell? ⟨m, 1, none⟩ = some (.int .i64 s) ∧ w'.cell? ⟨m, 2, none⟩ = some (.int .i64 r) ∧ w'.cell? ⟨m, 3, none⟩ = some (.slice a1 ks.length c1) ∧ w'.cell? ⟨m, 4, none⟩ = some (.slice b1 vs.length d1) ∧ w'.cell? ⟨x, 0, none⟩ = some (.int .i64 0) ∧ w'.cell? ⟨x, 1, none⟩ = some (.int .i64 0) ∧ w'.cell? ⟨x, 2, none⟩ = some (.int .i64 0) ∧ w'.cell? ⟨x, 3, none⟩ = some (.slice a3 KS.length c3) ∧ w'.cell? ⟨x, 4, none⟩ = some (.slice b3 VS.length d3) ∧ w'.cell? ⟨y, 0, none⟩ = some (.int .i64 0) ∧ w'.cell? ⟨y, 1, none⟩ = some (.int .i64 0) ∧ w'.cell? ⟨y, 2, none⟩ = some (.int .i64 0) ∧ w'.cell? ⟨y, 3, none⟩ = some (.slice a4 KS.length c4) ∧ w'.cell? ⟨y, 4, none⟩ = some (.slice b4 VS.length d4))) (by kernel_rfl) (by exact ⟨bm6.out.cl.1, bm6.out.cl.2.1, bm6.out.cl.2.2.1, bm6.out.cl.2.2.2.1, bm6.out.cl.2.2.2.2, bx6.out.cl.1, bx6.out.cl.2.1, bx6.out.cl.2.2.1, bx6.out.cl.2.2.2.1, bx6.out.cl.2.2.2.2, by6.out.cl.1, by6.out.cl.2.1, by6.out.cl.2.2.1, by6.out.cl.2.2.2.1, by6.out.cl.2.2.2.2⟩) (fun hHeld => ?_)
    have hm := hid (bm6.out.drew)
    have hx := hid (bx6.out.drew)
    have hy := hid (by6.out.drew)
    have hbel := hid (Below.drew bel6.out)
    clear bm6 bx6 by6 bel6
    generalize w6.drew = W1 at *
    refine wpAnyH_take (i := 0) (oi := ?oi1) (v := ?v1) (fuel := 20) ?hi1 ?hs1 ?hf1 ?hr1 ?hq1 (Or.inl ⟨?hw1, ?hy1⟩) hHeld ?rest1
    case hi1 => rw [List.getElem?_toArray]; rfl
    case hq1 => exact fun _ _ _ h => h
    case hs1 | hf1 | hr1 => kernel_rfl
    case hw1 => rfl
    case hy1 => (intro w1 hSw; (try dsimp only at hSw); go_simp; try with_reducible rfl)
    (try simp only [Act.put, List.setIfInBounds_toArray, List.set_cons_zero, List.set_cons_succ])
    refine wpAnyH_take (i := 1) (oi := ?oi2) (v := ?v2) (fuel := 19) ?hi2 ?hs2 ?hf2 ?hr2 ?hq2 (Or.inl ⟨?hw2, ?hy2⟩) hHeld ?rest2
    case hi2 => rw [List.getElem?_toArray]; rfl
    case hq2 => exact fun _ _ _ h => h
    case hs2 | hf2 | hr2 => kernel_rfl
    case hw2 => rfl
    case hy2 => (intro w1 hSw; (try dsimp only at hSw); go_simp; try with_reducible rfl)
    (try simp only [Act.put, List.setIfInBounds_toArray, List.set_cons_zero, List.set_cons_succ])
    refine wpAnyH_take (i := 2) (oi := ?oi3) (v := ?v3) (fuel := 18) ?hi3 ?hs3 ?hf3 ?hr3 ?hq3 (Or.inl ⟨?hw3, ?hy3⟩) hHeld ?rest3
    case hi3 => rw [List.getElem?_toArray]; rfl
    case hq3 => exact fun _ _ _ h => h
    case hs3 | hf3 | hr3 => kernel_rfl
    case hw3 => rfl
    case hy3 => (intro w1 hSw; (try dsimp only at hSw); go_simp; try with_reducible rfl)
    (try simp only [Act.put, List.setIfInBounds_toArray, List.set_cons_zero, List.set_cons_succ])
    refine wpAnyH_take (i := 3) (oi := ?oi4) (v := ?v4) (fuel := 17) ?hi4 ?hs4 ?hf4 ?hr4 ?hq4 (Or.inl ⟨?hw4, ?hy4⟩) hHeld ?rest4
    case hi4 => rw [List.getElem?_toArray]; rfl
    case hq4 => exact fun _ _ _ h => h
    case hs4 | hf4 | hr4 => kernel_rfl
    case hw4 => rfl
    case hy4 => (intro w1 hSw; (try dsimp only at hSw); go_simp; try with_reducible rfl)
    (try simp only [Act.put, List.setIfInBounds_toArray, List.set_cons_zero, List.set_cons_succ])
    refine wpAnyH_take (i := 4) (oi := ?oi5) (v := ?v5) (fuel := 16) ?hi5 ?hs5 ?hf5 ?hr5 ?hq5 (Or.inl ⟨?hw5, ?hy5⟩) hHeld ?rest5
    case hi5 => rw [List.getElem?_toArray]; rfl
    case hq5 => exact fun _ _ _ h => h
    case hs5 | hf5 | hr5 => kernel_rfl
    case hw5 => rfl
    case hy5 => (intro w1 hSw; (try dsimp only at hSw); go_simp; try with_reducible rfl)
    (try simp only [Act.put, List.setIfInBounds_toArray, List.set_cons_zero, List.set_cons_succ])
    refine wpAnyH_take (i := 5) (oi := ?oi6) (v := ?v6) (fuel := 15) ?hi6 ?hs6 ?hf6 ?hr6 ?hq6 (Or.inl ⟨?hw6, ?hy6⟩) hHeld ?rest6
    case hi6 => rw [List.getElem?_toArray]; rfl
    case hq6 => exact fun _ _ _ h => h
    case hs6 | hf6 | hr6 => kernel_rfl
    case hw6 => rfl
    case hy6 => (intro w1 hSw; (try dsimp only at hSw); go_simp; try with_reducible rfl)
    (try simp only [Act.put, List.setIfInBounds_toArray, List.set_cons_zero, List.set_cons_succ])
    refine wpAnyH_ready (fuel := 14) (rs := [6]) (by kernel_rfl) (by simp) ?_
    refine AllReadyH.cons (o := ?oi7) ?hi7 (fun K hK => ?st7) AllReadyH.nil
    case hi7 => rw [List.getElem?_toArray]; rfl
    go_simp
    refine (sg_o 0 0 0 KS VS a3 b3 a4 b4 c3 d3 c4 d4 _ hx.out.rw hy.out.rw hKS hVS).mono ?_
    rintro ee wr6 ⟨rfl, hbn⟩
    replace hm := hid (hm.out.below hbn)
    replace hx := hid (hx.out.below hbn)
    replace hy := hid (hy.out.below hbn)
    replace hbel := hid (hbel.out.to hbn)
    clear hbn
    go_wp2_with fail
    refine hK.out _ _ ?hS7 (fun hHeld => ?re7)
    case hS7 => exact ⟨hm.out.cl.1, hm.out.cl.2.1, hm.out.cl.2.2.1, hm.out.cl.2.2.2.1, hm.out.cl.2.2.2.2, hx.out.cl.1, hx.out.cl.2.1, hx.out.cl.2.2.1, hx.out.cl.2.2.2.1, hx.out.cl.2.2.2.2, hy.out.cl.1, hy.out.cl.2.1, hy.out.cl.2.2.1, hy.out.cl.2.2.2.1, hy.out.cl.2.2.2.2⟩
    clear hK K
    (try simp only [Act.put, List.setIfInBounds_toArray, List.set_cons_zero, List.set_cons_succ])
    refine wpAnyH_take (i := 7) (oi := ?oi8) (v := ?v8) (fuel := 13) ?hi8 ?hs8 ?hf8 ?hr8 ?hq8 (Or.inl ⟨?hw8, ?hy8⟩) hHeld ?rest8
    case hi8 => rw [List.getElem?_toArray]; rfl
    case hq8 => exact fun _ _ _ h => h
    case hs8 | hf8 | hr8 => kernel_rfl
    case hw8 => rfl
    case hy8 => (intro w1 hSw; (try dsimp only at hSw); go_simp; try with_reducible rfl)
    (try simp only [Act.put, List.setIfInBounds_toArray, List.set_cons_zero, List.set_cons_succ])
    refine wpAnyH_take (i := 8) (oi := ?oi9) (v := ?v9) (fuel := 12) ?hi9 ?hs9 ?hf9 ?hr9 ?hq9 (Or.inl ⟨?hw9, ?hy9⟩) hHeld ?rest9
    case hi9 => rw [List.getElem?_toArray]; rfl
    case hq9 => exact fun _ _ _ h => h
    case hs9 | hf9 | hr9 => kernel_rfl
    case hw9 => rfl
    case hy9 => (intro w1 hSw; (try dsimp only at hSw); go_simp; try with_reducible rfl)
    (try simp only [Act.put, List.setIfInBounds_toArray, List.set_cons_zero, List.set_cons_succ])
    refine wpAnyH_take (i := 9) (oi := ?oi10) (v := ?v10) (fuel := 11) ?hi10 ?hs10 ?hf10 ?hr10 ?hq10 (Or.inl ⟨?hw10, ?hy10⟩) hHeld ?rest10
    case hi10 => rw [List.getElem?_toArray]; rfl
    case hq10 => exact fun _ _ _ h => h
    case hs10 | hf10 | hr10 => kernel_rfl
    case hw10 => rfl
    case hy10 => (intro w1 hSw; (try dsimp only at hSw); go_simp; try with_reducible rfl)
    (try simp only [Act.put, List.setIfInBounds_toArray, List.set_cons_zero, List.set_cons_succ])
    refine wpAnyH_take (i := 10) (oi := ?oi11) (v := ?v11) (fuel := 10) ?hi11 ?hs11 ?hf11 ?hr11 ?hq11 (Or.inl ⟨?hw11, ?hy11⟩) hHeld ?rest11
    case hi11 => rw [List.getElem?_toArray]; rfl
    case hq11 => exact fun _ _ _ h => h
    case hs11 | hf11 | hr11 => kernel_rfl
    case hw11 => rfl
    case hy11 => (intro w1 hSw; (try dsimp only at hSw); go_simp; try with_reducible rfl)
    (try simp only [Act.put, List.setIfInBounds_toArray, List.set_cons_zero, List.set_cons_succ])
    refine wpAnyH_take (i := 12) (oi := ?oi12) (v := ?v12) (fuel := 9) ?hi12 ?hs12 ?hf12 ?hr12 ?hq12 (Or.inl ⟨?hw12, ?hy12⟩) hHeld ?rest12
    case hi12 => rw [List.getElem?_toArray]; rfl
    case hq12 => exact fun _ _ _ h => h
    case hs12 | hf12 | hr12 => kernel_rfl
    case hw12 => rfl
    case hy12 => (intro w1 hSw; (try dsimp only at hSw); go_simp; try with_reducible rfl)
    (try simp only [Act.put, List.setIfInBounds_toArray, List.set_cons_zero, List.set_cons_succ])
    refine wpAnyH_ready (fuel := 8) (rs := [11]) (by kernel_rfl) (by simp) ?_
    refine AllReadyH.cons (o := ?oi13) ?hi13 (fun K hK => ?st13) AllReadyH.nil
    case hi13 => rw [List.getElem?_toArray]; rfl
    go_simp
    refine (ok_o k s r ks vs a1 b1 c1 d1 _ hm.out.rw hk hv).mono ?_
    rw [HOK.out]
    rintro ee wr11 ⟨rfl, hbn⟩
    replace hm := hid (hm.out.below hbn)
    replace hx := hid (hx.out.below hbn)
    replace hy := hid (hy.out.below hbn)
    replace hbel := hid (hbel.out.to hbn)
    clear hbn
    go_wp2_with fail
    refine hK.out _ _ ?hS13 (fun hHeld => ?re13)
    case hS13 => exact ⟨hm.out.cl.1, hm.out.cl.2.1, hm.out.cl.2.2.1, hm.out.cl.2.2.2.1, hm.out.cl.2.2.2.2, hx.out.cl.1, hx.out.cl.2.1, hx.out.cl.2.2.1, hx.out.cl.2.2.2.1, hx.out.cl.2.2.2.2, hy.out.cl.1, hy.out.cl.2.1, hy.out.cl.2.2.1, hy.out.cl.2.2.2.1, hy.out.cl.2.2.2.2⟩
    clear hK K
    (try simp only [Act.put, List.setIfInBounds_toArray, List.set_cons_zero, List.set_cons_succ])
    refine wpAnyH_ready (fuel := 7) (rs := [13]) (by kernel_rfl) (by simp) ?_
    refine AllReadyH.cons (o := ?oi14) ?hi14 (fun K hK => ?st14) AllReadyH.nil
    case hi14 => rw [List.getElem?_toArray]; rfl
    go_simp
    refine (sok_o k s r ks vs a1 b1 c1 d1 _ hm.out.rw hk hv).mono ?_
    rw [HOK.out]
    rintro ee wr13 ⟨rfl, hbn⟩
    replace hm := hid (hm.out.below hbn)
    replace hx := hid (hx.out.below hbn)
    replace hy := hid (hy.out.below hbn)
    replace hbel := hid (hbel.out.to hbn)
    clear hbn
    go_wp2_with fail
    refine hK.out _ _ ?hS14 (fun hHeld => ?re14)
    case hS14 => exact ⟨hm.out.cl.1, hm.out.cl.2.1, hm.out.cl.2.2.1, hm.out.cl.2.2.2.1, hm.out.cl.2.2.2.2, hx.out.cl.1, hx.out.cl.2.1, hx.out.cl.2.2.1, hx.out.cl.2.2.2.1, hx.out.cl.2.2.2.2, hy.out.cl.1, hy.out.cl.2.1, hy.out.cl.2.2.1, hy.out.cl.2.2.2.1, hy.out.cl.2.2.2.2⟩
    clear hK K
    (try simp only [Act.put, List.setIfInBounds_toArray, List.set_cons_zero, List.set_cons_succ])
    refine wpAnyH_take (i := 14) (oi := ?oi15) (v := ?v15) (fuel := 6) ?hi15 ?hs15 ?hf15 ?hr15 ?hq15 (Or.inl ⟨?hw15, ?hy15⟩) hHeld ?rest15
    case hi15 => rw [List.getElem?_toArray]; rfl
    case hq15 => exact fun _ _ _ h => h
    case hs15 | hf15 | hr15 => kernel_rfl
    case hw15 => rfl
    case hy15 => (intro w1 hSw; (try dsimp only at hSw); go_simp; try with_reducible rfl)
    (try simp only [Act.put, List.setIfInBounds_toArray, List.set_cons_zero, List.set_cons_succ])
    refine wpAnyH_take (i := 15) (oi := ?oi16) (v := ?v16) (fuel := 5) ?hi16 ?hs16 ?hf16 ?hr16 ?hq16 (Or.inl ⟨?hw16, ?hy16⟩) hHeld ?rest16
    case hi16 => rw [List.getElem?_toArray]; rfl
    case hq16 => exact fun _ _ _ h => h
    case hs16 | hf16 | hr16 => kernel_rfl
    case hw16 => rfl
    case hy16 => (intro w1 hSw; (try dsimp only at hSw); go_simp; try with_reducible rfl)
    (try simp only [Act.put, List.setIfInBounds_toArray, List.set_cons_zero, List.set_cons_succ])
    refine wpAnyH_take (i := 16) (oi := ?oi17) (v := ?v17) (fuel := 4) ?hi17 ?hs17 ?hf17 ?hr17 ?hq17 (Or.inl ⟨?hw17, ?hy17⟩) hHeld ?rest17
    case hi17 => rw [List.getElem?_toArray]; rfl
    case hq17 => exact fun _ _ _ h => h
    case hs17 | hf17 | hr17 => kernel_rfl
    case hw17 => rfl
    case hy17 => (intro w1 hSw; (try dsimp only at hSw); go_simp; try with_reducible rfl)
    (try simp only [Act.put, List.setIfInBounds_toArray, List.set_cons_zero, List.set_cons_succ])
    refine wpAnyH_take (i := 17) (oi := ?oi18) (v := ?v18) (fuel := 3) ?hi18 ?hs18 ?hf18 ?hr18 ?hq18 (Or.inl ⟨?hw18, ?hy18⟩) hHeld ?rest18
    case hi18 => rw [List.getElem?_toArray]; rfl
    case hq18 => exact fun _ _ _ h => h
    case hs18 | hf18 | hr18 => kernel_rfl
    case hw18 => rfl
    case hy18 => (intro w1 hSw; (try dsimp only at hSw); go_simp; try with_reducible rfl)
    (try simp only [Act.put, List.setIfInBounds_toArray, List.set_cons_zero, List.set_cons_succ])
    refine wpAnyH_ready (fuel := 2) (rs := [18]) (by kernel_rfl) (by simp) ?_
    refine AllReadyH.cons (o := ?oi19) ?hi19 (fun K hK => ?st19) AllReadyH.nil
    case hi19 => rw [List.getElem?_toArray]; rfl
    go_simp
    refine (ok_o k s r ks vs a1 b1 c1 d1 _ hm.out.rw hk hv).mono ?_
    rw [HOK.out]
    rintro ee wr18 ⟨rfl, hbn⟩
    replace hm := hid (hm.out.below hbn)
    replace hx := hid (hx.out.below hbn)
    replace hy := hid (hy.out.below hbn)
    replace hbel := hid (hbel.out.to hbn)
    clear hbn
    go_wp2_with fail
    refine hK.out _ _ ?hS19 (fun hHeld => ?re19)
    case hS19 => exact ⟨hm.out.cl.1, hm.out.cl.2.1, hm.out.cl.2.2.1, hm.out.cl.2.2.2.1, hm.out.cl.2.2.2.2, hx.out.cl.1, hx.out.cl.2.1, hx.out.cl.2.2.1, hx.out.cl.2.2.2.1, hx.out.cl.2.2.2.2, hy.out.cl.1, hy.out.cl.2.1, hy.out.cl.2.2.1, hy.out.cl.2.2.2.1, hy.out.cl.2.2.2.2⟩
    clear hK K
    (try simp only [Act.put, List.setIfInBounds_toArray, List.set_cons_zero, List.set_cons_succ])
    refine wpAnyH_take (i := 19) (oi := ?oi20) (v := ?v20) (fuel := 1) ?hi20 ?hs20 ?hf20 ?hr20 ?hq20 (Or.inl ⟨?hw20, ?hy20⟩) hHeld ?rest20
    case hi20 => rw [List.getElem?_toArray]; rfl
    case hq20 => exact fun _ _ _ h => h
    case hs20 | hf20 | hr20 => kernel_rfl
    case hw20 => rfl
    case hy20 => (intro w1 hSw; (try dsimp only at hSw); go_simp; try with_reducible rfl)
    (try simp only [Act.put, List.setIfInBounds_toArray, List.set_cons_zero, List.set_cons_succ])
    refine wpAnyH_take (i := 20) (oi := ?oi21) (v := ?v21) (fuel := 0) ?hi21 ?hs21 ?hf21 ?hr21 ?hq21 (Or.inl ⟨?hw21, ?hy21⟩) hHeld ?rest21
    case hi21 => rw [List.getElem?_toArray]; rfl
    case hq21 => exact fun _ _ _ h => h
    case hs21 | hf21 | hr21 => kernel_rfl
    case hw21 => rfl
    case hy21 => (intro w1 hSw; (try dsimp only at hSw); go_simp; try with_reducible rfl)
    (try simp only [Act.put, List.setIfInBounds_toArray, List.set_cons_zero, List.set_cons_succ])
    refine wpAnyH_done (by kernel_rfl) ?_ _
    clear hHeld
    generalize wr18 = w7 at *
    have bm7 := hm
    have bx7 := hx
    have by7 := hy
    have bel7 := hbel
    clear hbel hm hx hy
    go_wp2_with fail
    refine wp_region_held_drew (S := (fun w' => w'.cell? ⟨m, 0, none⟩ = some (.int .i64 k) ∧ w'.cell? ⟨m, 1, none⟩ = some (.int .i64 s) ∧ w'.cell? ⟨m, 2, none⟩ = some (.int .i64 r) ∧ w'.cell? ⟨m, 3, none⟩ = some (.slice a1 ks.length c1) ∧ w'.cell? ⟨m, 4, none⟩ = some (.slice b1 vs.length d1) ∧ w'.cell? ⟨x, 0, none⟩ = some (.int .i64 0) ∧ w'.cell? ⟨x, 1, none⟩ = some (.int .i64 0) ∧ w'.cell? ⟨x, 2, none⟩ = some (.int .i64 0) ∧ w'.cell? ⟨x, 3, none⟩ = some (.slice a3 KS.length c3) ∧ w'.cell? ⟨x, 4, none⟩ = some (.slice b3 VS.length d3) ∧ w'.cell? ⟨y, 0, none⟩ = some (.int .i64 0) ∧ w'.cell? ⟨y, 1, none⟩ = some (.int .i64 0) ∧ w'.cell? ⟨y, 2, none⟩ = some (.int .i64 0) ∧ w'.cell? ⟨y, 3, none⟩ = some (.slice a4 KS.length c4) ∧ w'.cell? ⟨y, 4, none⟩ = some (.slice b4 VS.length d4))) (by kernel_rfl) (by exact ⟨bm7.out.cl.1, bm7.out.cl.2.1, bm7.out.cl.2.2.1, bm7.out.cl.2.2.2.1, bm7.out.cl.2.2.2.2, bx7.out.cl.1, bx7.out.cl.2.1, bx7.out.cl.2.2.1, bx7.out.cl.2.2.2.1, bx7.out.cl.2.2.2.2, by7.out.cl.1, by7.out.cl.2.1, by7.out.cl.2.2.1, by7.out.cl.2.2.2.1, by7.out.cl.2.2.2.2⟩) (fun hHeld => ?_)
    have hm := hid (bm7.out.drew)
    have hx := hid (bx7.out.drew)
    have hy := hid (by7.out.drew)
    have hbel := hid (Below.drew bel7.out)
    clear bm7 bx7 by7 bel7
    generalize w7.drew = W1 at *
    refine wpAnyH_take (i := 0) (oi := ?oi22) (v := ?v22) (fuel := 15) ?hi22 ?hs22 ?hf22 ?hr22 ?hq22 (Or.inl ⟨?hw22, ?hy22⟩) hHeld ?rest22
    case hi22 => rw [List.getElem?_toArray]; rfl
    case hq22 => exact fun _ _ _ h => h
    case hs22 | hf22 | hr22 => kernel_rfl
    case hw22 => rfl
    case hy22 => (intro w1 hSw; (try dsimp only at hSw); go_simp; try with_reducible rfl)
    (try simp only [Act.put, List.setIfInBounds_toArray, List.set_cons_zero, List.set_cons_succ])
    refine wpAnyH_take (i := 1) (oi := ?oi23) (v := ?v23) (fuel := 14) ?hi23 ?hs23 ?hf23 ?hr23 ?hq23 (Or.inl ⟨?hw23, ?hy23⟩) hHeld ?rest23
    case hi23 => rw [List.getElem?_toArray]; rfl
    case hq23 => exact fun _ _ _ h => h
    case hs23 | hf23 | hr23 => kernel_rfl
    case hw23 => rfl
    case hy23 => (intro w1 hSw; (try dsimp only at hSw); go_simp; try with_reducible rfl)
    (try simp only [Act.put, List.setIfInBounds_toArray, List.set_cons_zero, List.set_cons_succ])
    refine wpAnyH_take (i := 2) (oi := ?oi24) (v := ?v24) (fuel := 13) ?hi24 ?hs24 ?hf24 ?hr24 ?hq24 (Or.inl ⟨?hw24, ?hy24⟩) hHeld ?rest24
    case hi24 => rw [List.getElem?_toArray]; rfl
    case hq24 => exact fun _ _ _ h => h
    case hs24 | hf24 | hr24 => kernel_rfl
    case hw24 => rfl
    case hy24 => (intro w1 hSw; (try dsimp only at hSw); go_simp; try with_reducible rfl)
    (try simp only [Act.put, List.setIfInBounds_toArray, List.set_cons_zero, List.set_cons_succ])
    refine wpAnyH_take (i := 3) (oi := ?oi25) (v := ?v25) (fuel := 12) ?hi25 ?hs25 ?hf25 ?hr25 ?hq25 (Or.inl ⟨?hw25, ?hy25⟩) hHeld ?rest25
    case hi25 => rw [List.getElem?_toArray]; rfl
    case hq25 => exact fun _ _ _ h => h
    case hs25 | hf25 | hr25 => kernel_rfl
    case hw25 => rfl
    case hy25 => (intro w1 hSw; (try dsimp only at hSw); go_simp; try with_reducible rfl)
    (try simp only [Act.put, List.setIfInBounds_toArray, List.set_cons_zero, List.set_cons_succ])
    refine wpAnyH_take (i := 4) (oi := ?oi26) (v := ?v26) (fuel := 11) ?hi26 ?hs26 ?hf26 ?hr26 ?hq26 (Or.inl ⟨?hw26, ?hy26⟩) hHeld ?rest26
    case hi26 => rw [List.getElem?_toArray]; rfl
    case hq26 => exact fun _ _ _ h => h
    case hs26 | hf26 | hr26 => kernel_rfl
    case hw26 => rfl
    case hy26 => (intro w1 hSw; (try dsimp only at hSw); go_simp; try with_reducible rfl)
    (try simp only [Act.put, List.setIfInBounds_toArray, List.set_cons_zero, List.set_cons_succ])
    refine wpAnyH_take (i := 5) (oi := ?oi27) (v := ?v27) (fuel := 10) ?hi27 ?hs27 ?hf27 ?hr27 ?hq27 (Or.inl ⟨?hw27, ?hy27⟩) hHeld ?rest27
    case hi27 => rw [List.getElem?_toArray]; rfl
    case hq27 => exact fun _ _ _ h => h
    case hs27 | hf27 | hr27 => kernel_rfl
    case hw27 => rfl
    case hy27 => (intro w1 hSw; (try dsimp only at hSw); go_simp; try with_reducible rfl)
    (try simp only [Act.put, List.setIfInBounds_toArray, List.set_cons_zero, List.set_cons_succ])
    refine wpAnyH_ready (fuel := 9) (rs := [6]) (by kernel_rfl) (by simp) ?_
    refine AllReadyH.cons (o := ?oi28) ?hi28 (fun K hK => ?st28) AllReadyH.nil
    case hi28 => rw [List.getElem?_toArray]; rfl
    go_simp
    refine (sg_o 0 0 0 KS VS a3 b3 a4 b4 c3 d3 c4 d4 _ hx.out.rw hy.out.rw hKS hVS).mono ?_
    rintro ee wr6 ⟨rfl, hbn⟩
    replace hm := hid (hm.out.below hbn)
    replace hx := hid (hx.out.below hbn)
    replace hy := hid (hy.out.below hbn)
    replace hbel := hid (hbel.out.to hbn)
    clear hbn
    go_wp2_with fail
    refine hK.out _ _ ?hS28 (fun hHeld => ?re28)
    case hS28 => exact ⟨hm.out.cl.1, hm.out.cl.2.1, hm.out.cl.2.2.1, hm.out.cl.2.2.2.1, hm.out.cl.2.2.2.2, hx.out.cl.1, hx.out.cl.2.1, hx.out.cl.2.2.1, hx.out.cl.2.2.2.1, hx.out.cl.2.2.2.2, hy.out.cl.1, hy.out.cl.2.1, hy.out.cl.2.2.1, hy.out.cl.2.2.2.1, hy.out.cl.2.2.2.2⟩
    clear hK K
    (try simp only [Act.put, List.setIfInBounds_toArray, List.set_cons_zero, List.set_cons_succ])
    refine wpAnyH_take (i := 7) (oi := ?oi29) (v := ?v29) (fuel := 8) ?hi29 ?hs29 ?hf29 ?hr29 ?hq29 (Or.inl ⟨?hw29, ?hy29⟩) hHeld ?rest29
    case hi29 => rw [List.getElem?_toArray]; rfl
    case hq29 => exact fun _ _ _ h => h
    case hs29 | hf29 | hr29 => kernel_rfl
    case hw29 => rfl
    case hy29 => (intro w1 hSw; (try dsimp only at hSw); go_simp; try with_reducible rfl)
    (try simp only [Act.put, List.setIfInBounds_toArray, List.set_cons_zero, List.set_cons_succ])
    refine wpAnyH_take (i := 8) (oi := ?oi30) (v := ?v30) (fuel := 7) ?hi30 ?hs30 ?hf30 ?hr30 ?hq30 (Or.inl ⟨?hw30, ?hy30⟩) hHeld ?rest30
    case hi30 => rw [List.getElem?_toArray]; rfl
    case hq30 => exact fun _ _ _ h => h
    case hs30 | hf30 | hr30 => kernel_rfl
    case hw30 => rfl
    case hy30 => (intro w1 hSw; (try dsimp only at hSw); go_simp; try with_reducible rfl)
    (try simp only [Act.put, List.setIfInBounds_toArray, List.set_cons_zero, List.set_cons_succ])
    refine wpAnyH_take (i := 9) (oi := ?oi31) (v := ?v31) (fuel := 6) ?hi31 ?hs31 ?hf31 ?hr31 ?hq31 (Or.inl ⟨?hw31, ?hy31⟩) hHeld ?rest31
    case hi31 => rw [List.getElem?_toArray]; rfl
    case hq31 => exact fun _ _ _ h => h
    case hs31 | hf31 | hr31 => kernel_rfl
    case hw31 => rfl
    case hy31 => (intro w1 hSw; (try dsimp only at hSw); go_simp; try with_reducible rfl)
    (try simp only [Act.put, List.setIfInBounds_toArray, List.set_cons_zero, List.set_cons_succ])
    refine wpAnyH_take (i := 11) (oi := ?oi32) (v := ?v32) (fuel := 5) ?hi32 ?hs32 ?hf32 ?hr32 ?hq32 (Or.inl ⟨?hw32, ?hy32⟩) hHeld ?rest32
    case hi32 => rw [List.getElem?_toArray]; rfl
    case hq32 => exact fun _ _ _ h => h
    case hs32 | hf32 | hr32 => kernel_rfl
    case hw32 => rfl
    case hy32 => (intro w1 hSw; (try dsimp only at hSw); go_simp; try with_reducible rfl)
    (try simp only [Act.put, List.setIfInBounds_toArray, List.set_cons_zero, List.set_cons_succ])
    refine wpAnyH_ready (fuel := 4) (rs := [10]) (by kernel_rfl) (by simp) ?_
    refine AllReadyH.cons (o := ?oi33) ?hi33 (fun K hK => ?st33) AllReadyH.nil
    case hi33 => rw [List.getElem?_toArray]; rfl
    go_simp
    refine (ok_o k s r ks vs a1 b1 c1 d1 _ hm.out.rw hk hv).mono ?_
    rw [HOK.out]
    rintro ee wr10 ⟨rfl, hbn⟩
    replace hm := hid (hm.out.below hbn)
    replace hx := hid (hx.out.below hbn)
    replace hy := hid (hy.out.below hbn)
    replace hbel := hid (hbel.out.to hbn)
    clear hbn
    go_wp2_with fail
    refine hK.out _ _ ?hS33 (fun hHeld => ?re33)
    case hS33 => exact ⟨hm.out.cl.1, hm.out.cl.2.1, hm.out.cl.2.2.1, hm.out.cl.2.2.2.1, hm.out.cl.2.2.2.2, hx.out.cl.1, hx.out.cl.2.1, hx.out.cl.2.2.1, hx.out.cl.2.2.2.1, hx.out.cl.2.2.2.2, hy.out.cl.1, hy.out.cl.2.1, hy.out.cl.2.2.1, hy.out.cl.2.2.2.1, hy.out.cl.2.2.2.2⟩
    clear hK K
    (try simp only [Act.put, List.setIfInBounds_toArray, List.set_cons_zero, List.set_cons_succ])
    refine wpAnyH_ready (fuel := 3) (rs := [12]) (by kernel_rfl) (by simp) ?_
    refine AllReadyH.cons (o := ?oi34) ?hi34 (fun K hK => ?st34) AllReadyH.nil
    case hi34 => rw [List.getElem?_toArray]; rfl
    go_simp
    refine (sok_o k s r ks vs a1 b1 c1 d1 _ hm.out.rw hk hv).mono ?_
    rw [HOK.out]
    rintro ee wr12 ⟨rfl, hbn⟩
    replace hm := hid (hm.out.below hbn)
    replace hx := hid (hx.out.below hbn)
    replace hy := hid (hy.out.below hbn)
    replace hbel := hid (hbel.out.to hbn)
    clear hbn
    go_wp2_with fail
    refine hK.out _ _ ?hS34 (fun hHeld => ?re34)
    case hS34 => exact ⟨hm.out.cl.1, hm.out.cl.2.1, hm.out.cl.2.2.1, hm.out.cl.2.2.2.1, hm.out.cl.2.2.2.2, hx.out.cl.1, hx.out.cl.2.1, hx.out.cl.2.2.1, hx.out.cl.2.2.2.1, hx.out.cl.2.2.2.2, hy.out.cl.1, hy.out.cl.2.1, hy.out.cl.2.2.1, hy.out.cl.2.2.2.1, hy.out.cl.2.2.2.2⟩
    clear hK K
    (try simp only [Act.put, List.setIfInBounds_toArray, List.set_cons_zero, List.set_cons_succ])
    refine wpAnyH_take (i := 13) (oi := ?oi35) (v := ?v35) (fuel := 2) ?hi35 ?hs35 ?hf35 ?hr35 ?hq35 (Or.inl ⟨?hw35, ?hy35⟩) hHeld ?rest35
    case hi35 => rw [List.getElem?_toArray]; rfl
    case hq35 => exact fun _ _ _ h => h
    case hs35 | hf35 | hr35 => kernel_rfl
    case hw35 => rfl
    case hy35 => (intro w1 hSw; (try dsimp only at hSw); go_simp; try with_reducible rfl)
    (try simp only [Act.put, List.setIfInBounds_toArray, List.set_cons_zero, List.set_cons_succ])
    refine wpAnyH_take (i := 14) (oi := ?oi36) (v := ?v36) (fuel := 1) ?hi36 ?hs36 ?hf36 ?hr36 ?hq36 (Or.inl ⟨?hw36, ?hy36⟩) hHeld ?rest36
    case hi36 => rw [List.getElem?_toArray]; rfl
    case hq36 => exact fun _ _ _ h => h
    case hs36 | hf36 | hr36 => kernel_rfl
    case hw36 => rfl
    case hy36 => (intro w1 hSw; (try dsimp only at hSw); go_simp; try with_reducible rfl)
    (try simp only [Act.put, List.setIfInBounds_toArray, List.set_cons_zero, List.set_cons_succ])
    refine wpAnyH_take (i := 15) (oi := ?oi37) (v := ?v37) (fuel := 0) ?hi37 ?hs37 ?hf37 ?hr37 ?hq37 (Or.inl ⟨?hw37, ?hy37⟩) hHeld ?rest37
    case hi37 => rw [List.getElem?_toArray]; rfl
    case hq37 => exact fun _ _ _ h => h
    case hs37 | hf37 | hr37 => kernel_rfl
    case hw37 => rfl
    case hy37 => (intro w1 hSw; (try dsimp only at hSw); go_simp; try with_reducible rfl)
    (try simp only [Act.put, List.setIfInBounds_toArray, List.set_cons_zero, List.set_cons_succ])
    refine wpAnyH_done (by kernel_rfl) ?_ _
    clear hHeld
    generalize wr12 = w8 at *
    have bm8 := hm
    have bx8 := hx
    have by8 := hy
    have bel8 := hbel
    clear hbel hm hx hy
    go_wp2_with fail
    go_ret
    exact ⟨rfl, bel8.out⟩
  rcases put_cases k s r ks vs key val hok with ⟨KS, VS, hp⟩ | ⟨C, hC, hp⟩
  · have HOK := hid hok
    have HP := hid hp.eq
    have HAT := hid hp.at'
    have HOX := hid hp.ok
    have HOT := hid hp.other
    have hKS : KS.length ≤ 1048576 := by have := hp.lenK; omega
    have hVS : VS.length ≤ 1048576 := by have := hp.lenV; omega
    clear hok hp
    go_wp2_with fail
    have bm2 := hid (TB.new rT1.out k s r)
    have bel2 := hid (bel1.out.alloc bel1.out.size (.cells #[.int .i64 k, .int .i64 s, .int .i64 r, .slice a1 ks.length c1, .slice b1 vs.length d1] 28))
    have lem := bel1.out.size
    clear rT1 bel1
    generalize w1.alloc (.cells #[.int .i64 k, .int .i64 s, .int .i64 r, .slice a1 ks.length c1, .slice b1 vs.length d1] 28) = w2 at *
    generalize w1.heap.size = m at *
    refine (put_o k s r ks vs a1 b1 c1 d1 key val hval _ bm2.out.rw hk hv).mono ?_
    rw [HP.out]
    dsimp only
    rintro e w3 ⟨a3, b3, c3, d3, rfl, hr, hb3⟩
    have bm3 := hid (bm2.out.below hb3)
    have bel3 := hid (bel2.out.to hb3)
    clear bm2 bel2 hb3
    have rX3 := hid hr
    clear hr
    obtain ⟨cm0, cm1, cm2, cm3, cm4⟩ := bm3.out.cl
    have cml := bm3.out.lt
    go_wp2_with fail
    clear cm0 cm1 cm2 cm3 cm4 cml
    have bx4 := hid (TB.new rX3.out k s r)
    have bm4 := hid (bm3.out.alloc (.cells #[.int .i64 k, .int .i64 s, .int .i64 r, .slice a3 KS.length c3, .slice b3 VS.length d3] 28))
    have bel4 := hid (bel3.out.alloc bel3.out.size (.cells #[.int .i64 k, .int .i64 s, .int .i64 r, .slice a3 KS.length c3, .slice b3 VS.length d3] 28))
    have lex := bel3.out.size
    clear bm3 rX3 bel3
    generalize w3.alloc (.cells #[.int .i64 k, .int .i64 s, .int .i64 r, .slice a3 KS.length c3, .slice b3 VS.length d3] 28) = w4 at *
    generalize w3.heap.size = x at *
    refine (sput_o k s r ks vs a1 b1 c1 d1 key val hval _ bm4.out.rw hk hv).mono ?_
    rw [HP.out]
    dsimp only
    rintro e w5 ⟨a4, b4, c4, d4, rfl, hr, hb5⟩
    have bm5 := hid (bm4.out.below hb5)
    have bx5 := hid (bx4.out.below hb5)
    have bel5 := hid (bel4.out.to hb5)
    clear bm4 bx4 bel4 hb5
    have rY5 := hid hr
    clear hr
    obtain ⟨cm0, cm1, cm2, cm3, cm4⟩ := bm5.out.cl
    have cml := bm5.out.lt
    obtain ⟨cx0, cx1, cx2, cx3, cx4⟩ := bx5.out.cl
    have cxl := bx5.out.lt
    go_wp2_with fail
    clear cm0 cm1 cm2 cm3 cm4 cml cx0 cx1 cx2 cx3 cx4 cxl
    have by6 := hid (TB.new rY5.out k s r)
    have bm6 := hid (bm5.out.alloc (.cells #[.int .i64 k, .int .i64 s, .int .i64 r, .slice a4 KS.length c4, .slice b4 VS.length d4] 28))
    have bx6 := hid (bx5.out.alloc (.cells #[.int .i64 k, .int .i64 s, .int .i64 r, .slice a4 KS.length c4, .slice b4 VS.length d4] 28))
    have bel6 := hid (bel5.out.alloc bel5.out.size (.cells #[.int .i64 k, .int .i64 s, .int .i64 r, .slice a4 KS.length c4, .slice b4 VS.length d4] 28))
    have ley := bel5.out.size
    clear bm5 bx5 rY5 bel5
    generalize w5.alloc (.cells #[.int .i64 k, .int .i64 s, .int .i64 r, .slice a4 KS.length c4, .slice b4 VS.length d4] 28) = w6 at *
    generalize w5.heap.size = y at *
    refine wp_region_held_drew (S := (fun w' => w'.cell? ⟨m, 0, none⟩ = some (.int .i64 k) ∧ w'.cell? ⟨m, 1, none⟩ = some (.int .i64 s) ∧ w'.cell? ⟨m, 2, none⟩ = some (.int .i64 r) ∧ w'.cell? ⟨m, 3, none⟩ = some (.slice a1 ks.length c1) ∧ w'.cell? ⟨m, 4, none⟩ = some (.slice b1 vs.length d1) ∧ w'.cell? ⟨x, 0, none⟩ = some (.int .i64 k) ∧ w'.cell? ⟨x, 1, none⟩ = some (.int .i64 s) ∧ w'.cell? ⟨x, 2, none⟩ = some (.int .i64 r) ∧ w'.cell? ⟨x, 3, none⟩ = some (.slice a3 KS.length c3) ∧ w'.cell? ⟨x, 4, none⟩ = some (.slice b3 VS.length d3) ∧ w'.cell? ⟨y, 0, none⟩ = some (.int .i64 k) ∧ w'.cell? ⟨y, 1, none⟩ = some (.int .i64 s) ∧ w'.cell? ⟨y, 2, none⟩ = some (.int .i64 r) ∧ w'.cell? ⟨y, 3, none⟩ = some (.slice a4 KS.length c4) ∧ w'.cell? ⟨y, 4, none⟩ = some (.slice b4 VS.length d4))) (by kernel_rfl) (by exact ⟨bm6.out.cl.1, bm6.out.cl.2.1, bm6.out.cl.2.2.1, bm6.out.cl.2.2.2.1, bm6.out.cl.2.2.2.2, bx6.out.cl.1, bx6.out.cl.2.1, bx6.out.cl.2.2.1, bx6.out.cl.2.2.2.1, bx6.out.cl.2.2.2.2, by6.out.cl.1, by6.out.cl.2.1, by6.out.cl.2.2.1, by6.out.cl.2.2.2.1, by6.out.cl.2.2.2.2⟩) (fun hHeld => ?_)
    have hm := hid (bm6.out.drew)
    have hx := hid (bx6.out.drew)
    have hy := hid (by6.out.drew)
    have hbel := hid (Below.drew bel6.out)
    clear bm6 bx6 by6 bel6
    generalize w6.drew = W1 at *
    refine wpAnyH_take (i := 0) (oi := ?oi38) (v := ?v38) (fuel := 20) ?hi38 ?hs38 ?hf38 ?hr38 ?hq38 (Or.inl ⟨?hw38, ?hy38⟩) hHeld ?rest38
    case hi38 => rw [List.getElem?_toArray]; rfl
    case hq38 => exact fun _ _ _ h => h
    case hs38 | hf38 | hr38 => kernel_rfl
    case hw38 => rfl
    case hy38 => (intro w1 hSw; (try dsimp only at hSw); go_simp; try with_reducible rfl)
    (try simp only [Act.put, List.setIfInBounds_toArray, List.set_cons_zero, List.set_cons_succ])
    refine wpAnyH_take (i := 1) (oi := ?oi39) (v := ?v39) (fuel := 19) ?hi39 ?hs39 ?hf39 ?hr39 ?hq39 (Or.inl ⟨?hw39, ?hy39⟩) hHeld ?rest39
    case hi39 => rw [List.getElem?_toArray]; rfl
    case hq39 => exact fun _ _ _ h => h
    case hs39 | hf39 | hr39 => kernel_rfl
    case hw39 => rfl
    case hy39 => (intro w1 hSw; (try dsimp only at hSw); go_simp; try with_reducible rfl)
    (try simp only [Act.put, List.setIfInBounds_toArray, List.set_cons_zero, List.set_cons_succ])
    refine wpAnyH_take (i := 2) (oi := ?oi40) (v := ?v40) (fuel := 18) ?hi40 ?hs40 ?hf40 ?hr40 ?hq40 (Or.inl ⟨?hw40, ?hy40⟩) hHeld ?rest40
    case hi40 => rw [List.getElem?_toArray]; rfl
    case hq40 => exact fun _ _ _ h => h
    case hs40 | hf40 | hr40 => kernel_rfl
    case hw40 => rfl
    case hy40 => (intro w1 hSw; (try dsimp only at hSw); go_simp; try with_reducible rfl)
    (try simp only [Act.put, List.setIfInBounds_toArray, List.set_cons_zero, List.set_cons_succ])
    refine wpAnyH_take (i := 3) (oi := ?oi41) (v := ?v41) (fuel := 17) ?hi41 ?hs41 ?hf41 ?hr41 ?hq41 (Or.inl ⟨?hw41, ?hy41⟩) hHeld ?rest41
    case hi41 => rw [List.getElem?_toArray]; rfl
    case hq41 => exact fun _ _ _ h => h
    case hs41 | hf41 | hr41 => kernel_rfl
    case hw41 => rfl
    case hy41 => (intro w1 hSw; (try dsimp only at hSw); go_simp; try with_reducible rfl)
    (try simp only [Act.put, List.setIfInBounds_toArray, List.set_cons_zero, List.set_cons_succ])
    refine wpAnyH_take (i := 4) (oi := ?oi42) (v := ?v42) (fuel := 16) ?hi42 ?hs42 ?hf42 ?hr42 ?hq42 (Or.inl ⟨?hw42, ?hy42⟩) hHeld ?rest42
    case hi42 => rw [List.getElem?_toArray]; rfl
    case hq42 => exact fun _ _ _ h => h
    case hs42 | hf42 | hr42 => kernel_rfl
    case hw42 => rfl
    case hy42 => (intro w1 hSw; (try dsimp only at hSw); go_simp; try with_reducible rfl)
    (try simp only [Act.put, List.setIfInBounds_toArray, List.set_cons_zero, List.set_cons_succ])
    refine wpAnyH_take (i := 5) (oi := ?oi43) (v := ?v43) (fuel := 15) ?hi43 ?hs43 ?hf43 ?hr43 ?hq43 (Or.inl ⟨?hw43, ?hy43⟩) hHeld ?rest43
    case hi43 => rw [List.getElem?_toArray]; rfl
    case hq43 => exact fun _ _ _ h => h
    case hs43 | hf43 | hr43 => kernel_rfl
    case hw43 => rfl
    case hy43 => (intro w1 hSw; (try dsimp only at hSw); go_simp; try with_reducible rfl)
    (try simp only [Act.put, List.setIfInBounds_toArray, List.set_cons_zero, List.set_cons_succ])
    refine wpAnyH_ready (fuel := 14) (rs := [6]) (by kernel_rfl) (by simp) ?_
    refine AllReadyH.cons (o := ?oi44) ?hi44 (fun K hK => ?st44) AllReadyH.nil
    case hi44 => rw [List.getElem?_toArray]; rfl
    go_simp
    refine (sg_o k s r KS VS a3 b3 a4 b4 c3 d3 c4 d4 _ hx.out.rw hy.out.rw hKS hVS).mono ?_
    rintro ee wr6 ⟨rfl, hbn⟩
    replace hm := hid (hm.out.below hbn)
    replace hx := hid (hx.out.below hbn)
    replace hy := hid (hy.out.below hbn)
    replace hbel := hid (hbel.out.to hbn)
    clear hbn
    go_wp2_with fail
    refine hK.out _ _ ?hS44 (fun hHeld => ?re44)
    case hS44 => exact ⟨hm.out.cl.1, hm.out.cl.2.1, hm.out.cl.2.2.1, hm.out.cl.2.2.2.1, hm.out.cl.2.2.2.2, hx.out.cl.1, hx.out.cl.2.1, hx.out.cl.2.2.1, hx.out.cl.2.2.2.1, hx.out.cl.2.2.2.2, hy.out.cl.1, hy.out.cl.2.1, hy.out.cl.2.2.1, hy.out.cl.2.2.2.1, hy.out.cl.2.2.2.2⟩
    clear hK K
    (try simp only [Act.put, List.setIfInBounds_toArray, List.set_cons_zero, List.set_cons_succ])
    refine wpAnyH_take (i := 7) (oi := ?oi45) (v := ?v45) (fuel := 13) ?hi45 ?hs45 ?hf45 ?hr45 ?hq45 (Or.inl ⟨?hw45, ?hy45⟩) hHeld ?rest45
    case hi45 => rw [List.getElem?_toArray]; rfl
    case hq45 => exact fun _ _ _ h => h
    case hs45 | hf45 | hr45 => kernel_rfl
    case hw45 => rfl
    case hy45 => (intro w1 hSw; (try dsimp only at hSw); go_simp; try with_reducible rfl)
    (try simp only [Act.put, List.setIfInBounds_toArray, List.set_cons_zero, List.set_cons_succ])
    refine wpAnyH_take (i := 8) (oi := ?oi46) (v := ?v46) (fuel := 12) ?hi46 ?hs46 ?hf46 ?hr46 ?hq46 (Or.inl ⟨?hw46, ?hy46⟩) hHeld ?rest46
    case hi46 => rw [List.getElem?_toArray]; rfl
    case hq46 => exact fun _ _ _ h => h
    case hs46 | hf46 | hr46 => kernel_rfl
    case hw46 => rfl
    case hy46 => (intro w1 hSw; (try dsimp only at hSw); go_simp; try with_reducible rfl)
    (try simp only [Act.put, List.setIfInBounds_toArray, List.set_cons_zero, List.set_cons_succ])
    refine wpAnyH_take (i := 9) (oi := ?oi47) (v := ?v47) (fuel := 11) ?hi47 ?hs47 ?hf47 ?hr47 ?hq47 (Or.inl ⟨?hw47, ?hy47⟩) hHeld ?rest47
    case hi47 => rw [List.getElem?_toArray]; rfl
    case hq47 => exact fun _ _ _ h => h
    case hs47 | hf47 | hr47 => kernel_rfl
    case hw47 => rfl
    case hy47 => (intro w1 hSw; (try dsimp only at hSw); go_simp; try with_reducible rfl)
    (try simp only [Act.put, List.setIfInBounds_toArray, List.set_cons_zero, List.set_cons_succ])
    refine wpAnyH_take (i := 10) (oi := ?oi48) (v := ?v48) (fuel := 10) ?hi48 ?hs48 ?hf48 ?hr48 ?hq48 (Or.inl ⟨?hw48, ?hy48⟩) hHeld ?rest48
    case hi48 => rw [List.getElem?_toArray]; rfl
    case hq48 => exact fun _ _ _ h => h
    case hs48 | hf48 | hr48 => kernel_rfl
    case hw48 => rfl
    case hy48 => (intro w1 hSw; (try dsimp only at hSw); go_simp; try with_reducible rfl)
    (try simp only [Act.put, List.setIfInBounds_toArray, List.set_cons_zero, List.set_cons_succ])
    refine wpAnyH_take (i := 12) (oi := ?oi49) (v := ?v49) (fuel := 9) ?hi49 ?hs49 ?hf49 ?hr49 ?hq49 (Or.inl ⟨?hw49, ?hy49⟩) hHeld ?rest49
    case hi49 => rw [List.getElem?_toArray]; rfl
    case hq49 => exact fun _ _ _ h => h
    case hs49 | hf49 | hr49 => kernel_rfl
    case hw49 => rfl
    case hy49 => (intro w1 hSw; (try dsimp only at hSw); go_simp; try with_reducible rfl)
    (try simp only [Act.put, List.setIfInBounds_toArray, List.set_cons_zero, List.set_cons_succ])
    refine wpAnyH_ready (fuel := 8) (rs := [11]) (by kernel_rfl) (by simp) ?_
    refine AllReadyH.cons (o := ?oi50) ?hi50 (fun K hK => ?st50) AllReadyH.nil
    case hi50 => rw [List.getElem?_toArray]; rfl
    go_simp
    refine (ok_o k s r ks vs a1 b1 c1 d1 _ hm.out.rw hk hv).mono ?_
    rw [HOK.out]
    rintro ee wr11 ⟨rfl, hbn⟩
    replace hm := hid (hm.out.below hbn)
    replace hx := hid (hx.out.below hbn)
    replace hy := hid (hy.out.below hbn)
    replace hbel := hid (hbel.out.to hbn)
    clear hbn
    go_wp2_with fail
    refine hK.out _ _ ?hS50 (fun hHeld => ?re50)
    case hS50 => exact ⟨hm.out.cl.1, hm.out.cl.2.1, hm.out.cl.2.2.1, hm.out.cl.2.2.2.1, hm.out.cl.2.2.2.2, hx.out.cl.1, hx.out.cl.2.1, hx.out.cl.2.2.1, hx.out.cl.2.2.2.1, hx.out.cl.2.2.2.2, hy.out.cl.1, hy.out.cl.2.1, hy.out.cl.2.2.1, hy.out.cl.2.2.2.1, hy.out.cl.2.2.2.2⟩
    clear hK K
    (try simp only [Act.put, List.setIfInBounds_toArray, List.set_cons_zero, List.set_cons_succ])
    refine wpAnyH_ready (fuel := 7) (rs := [13]) (by kernel_rfl) (by simp) ?_
    refine AllReadyH.cons (o := ?oi51) ?hi51 (fun K hK => ?st51) AllReadyH.nil
    case hi51 => rw [List.getElem?_toArray]; rfl
    go_simp
    refine (sok_o k s r ks vs a1 b1 c1 d1 _ hm.out.rw hk hv).mono ?_
    rw [HOK.out]
    rintro ee wr13 ⟨rfl, hbn⟩
    replace hm := hid (hm.out.below hbn)
    replace hx := hid (hx.out.below hbn)
    replace hy := hid (hy.out.below hbn)
    replace hbel := hid (hbel.out.to hbn)
    clear hbn
    go_wp2_with fail
    refine hK.out _ _ ?hS51 (fun hHeld => ?re51)
    case hS51 => exact ⟨hm.out.cl.1, hm.out.cl.2.1, hm.out.cl.2.2.1, hm.out.cl.2.2.2.1, hm.out.cl.2.2.2.2, hx.out.cl.1, hx.out.cl.2.1, hx.out.cl.2.2.1, hx.out.cl.2.2.2.1, hx.out.cl.2.2.2.2, hy.out.cl.1, hy.out.cl.2.1, hy.out.cl.2.2.1, hy.out.cl.2.2.2.1, hy.out.cl.2.2.2.2⟩
    clear hK K
    (try simp only [Act.put, List.setIfInBounds_toArray, List.set_cons_zero, List.set_cons_succ])
    refine wpAnyH_take (i := 14) (oi := ?oi52) (v := ?v52) (fuel := 6) ?hi52 ?hs52 ?hf52 ?hr52 ?hq52 (Or.inl ⟨?hw52, ?hy52⟩) hHeld ?rest52
    case hi52 => rw [List.getElem?_toArray]; rfl
    case hq52 => exact fun _ _ _ h => h
    case hs52 | hf52 | hr52 => kernel_rfl
    case hw52 => rfl
    case hy52 => (intro w1 hSw; (try dsimp only at hSw); go_simp; try with_reducible rfl)
    (try simp only [Act.put, List.setIfInBounds_toArray, List.set_cons_zero, List.set_cons_succ])
    refine wpAnyH_take (i := 15) (oi := ?oi53) (v := ?v53) (fuel := 5) ?hi53 ?hs53 ?hf53 ?hr53 ?hq53 (Or.inl ⟨?hw53, ?hy53⟩) hHeld ?rest53
    case hi53 => rw [List.getElem?_toArray]; rfl
    case hq53 => exact fun _ _ _ h => h
    case hs53 | hf53 | hr53 => kernel_rfl
    case hw53 => rfl
    case hy53 => (intro w1 hSw; (try dsimp only at hSw); go_simp; try with_reducible rfl)
    (try simp only [Act.put, List.setIfInBounds_toArray, List.set_cons_zero, List.set_cons_succ])
    refine wpAnyH_take (i := 16) (oi := ?oi54) (v := ?v54) (fuel := 4) ?hi54 ?hs54 ?hf54 ?hr54 ?hq54 (Or.inl ⟨?hw54, ?hy54⟩) hHeld ?rest54
    case hi54 => rw [List.getElem?_toArray]; rfl
    case hq54 => exact fun _ _ _ h => h
    case hs54 | hf54 | hr54 => kernel_rfl
    case hw54 => rfl
    case hy54 => (intro w1 hSw; (try dsimp only at hSw); go_simp; try with_reducible rfl)
    (try simp only [Act.put, List.setIfInBounds_toArray, List.set_cons_zero, List.set_cons_succ])
    refine wpAnyH_take (i := 17) (oi := ?oi55) (v := ?v55) (fuel := 3) ?hi55 ?hs55 ?hf55 ?hr55 ?hq55 (Or.inl ⟨?hw55, ?hy55⟩) hHeld ?rest55
    case hi55 => rw [List.getElem?_toArray]; rfl
    case hq55 => exact fun _ _ _ h => h
    case hs55 | hf55 | hr55 => kernel_rfl
    case hw55 => rfl
    case hy55 => (intro w1 hSw; (try dsimp only at hSw); go_simp; try with_reducible rfl)
    (try simp only [Act.put, List.setIfInBounds_toArray, List.set_cons_zero, List.set_cons_succ])
    refine wpAnyH_ready (fuel := 2) (rs := [18]) (by kernel_rfl) (by simp) ?_
    refine AllReadyH.cons (o := ?oi56) ?hi56 (fun K hK => ?st56) AllReadyH.nil
    case hi56 => rw [List.getElem?_toArray]; rfl
    go_simp
    refine (ok_o k s r ks vs a1 b1 c1 d1 _ hm.out.rw hk hv).mono ?_
    rw [HOK.out]
    rintro ee wr18 ⟨rfl, hbn⟩
    replace hm := hid (hm.out.below hbn)
    replace hx := hid (hx.out.below hbn)
    replace hy := hid (hy.out.below hbn)
    replace hbel := hid (hbel.out.to hbn)
    clear hbn
    go_wp2_with fail
    refine hK.out _ _ ?hS56 (fun hHeld => ?re56)
    case hS56 => exact ⟨hm.out.cl.1, hm.out.cl.2.1, hm.out.cl.2.2.1, hm.out.cl.2.2.2.1, hm.out.cl.2.2.2.2, hx.out.cl.1, hx.out.cl.2.1, hx.out.cl.2.2.1, hx.out.cl.2.2.2.1, hx.out.cl.2.2.2.2, hy.out.cl.1, hy.out.cl.2.1, hy.out.cl.2.2.1, hy.out.cl.2.2.2.1, hy.out.cl.2.2.2.2⟩
    clear hK K
    (try simp only [Act.put, List.setIfInBounds_toArray, List.set_cons_zero, List.set_cons_succ])
    refine wpAnyH_take (i := 19) (oi := ?oi57) (v := ?v57) (fuel := 1) ?hi57 ?hs57 ?hf57 ?hr57 ?hq57 (Or.inl ⟨?hw57, ?hy57⟩) hHeld ?rest57
    case hi57 => rw [List.getElem?_toArray]; rfl
    case hq57 => exact fun _ _ _ h => h
    case hs57 | hf57 | hr57 => kernel_rfl
    case hw57 => rfl
    case hy57 => (intro w1 hSw; (try dsimp only at hSw); go_simp; try with_reducible rfl)
    (try simp only [Act.put, List.setIfInBounds_toArray, List.set_cons_zero, List.set_cons_succ])
    refine wpAnyH_take (i := 20) (oi := ?oi58) (v := ?v58) (fuel := 0) ?hi58 ?hs58 ?hf58 ?hr58 ?hq58 (Or.inl ⟨?hw58, ?hy58⟩) hHeld ?rest58
    case hi58 => rw [List.getElem?_toArray]; rfl
    case hq58 => exact fun _ _ _ h => h
    case hs58 | hf58 | hr58 => kernel_rfl
    case hw58 => rfl
    case hy58 => (intro w1 hSw; (try dsimp only at hSw); go_simp; try with_reducible rfl)
    (try simp only [Act.put, List.setIfInBounds_toArray, List.set_cons_zero, List.set_cons_succ])
    refine wpAnyH_done (by kernel_rfl) ?_ _
    clear hHeld
    generalize wr18 = w7 at *
    have bm7 := hm
    have bx7 := hx
    have by7 := hy
    have bel7 := hbel
    clear hbel hm hx hy
    obtain ⟨cm0, cm1, cm2, cm3, cm4⟩ := bm7.out.cl
    have cml := bm7.out.lt
    obtain ⟨cx0, cx1, cx2, cx3, cx4⟩ := bx7.out.cl
    have cxl := bx7.out.lt
    obtain ⟨cy0, cy1, cy2, cy3, cy4⟩ := by7.out.cl
    have cyl := by7.out.lt
    go_wp2_with fail
    clear cm0 cm1 cm2 cm3 cm4 cml cx0 cx1 cx2 cx3 cx4 cxl cy0 cy1 cy2 cy3 cy4 cyl
    refine (look_o k s r KS VS a3 b3 c3 d3 key _ bx7.out.rw hKS hVS).mono ?_
    rw [HAT.out]
    dsimp only
    rintro e w8 ⟨rfl, hb8⟩
    have bm8 := hid (bm7.out.below hb8)
    have bx8 := hid (bx7.out.below hb8)
    have by8 := hid (by7.out.below hb8)
    have bel8 := hid (bel7.out.to hb8)
    clear bm7 bx7 by7 bel7 hb8
    obtain ⟨cm0, cm1, cm2, cm3, cm4⟩ := bm8.out.cl
    have cml := bm8.out.lt
    obtain ⟨cx0, cx1, cx2, cx3, cx4⟩ := bx8.out.cl
    have cxl := bx8.out.lt
    go_wp2_with fail
    clear cm0 cm1 cm2 cm3 cm4 cml cx0 cx1 cx2 cx3 cx4 cxl
    refine (drawLook_s w8 a2 len2 cap2 hc2 (HS2.out.below bel8.out) hl2).mono ?_
    rintro e w9 ⟨k6, s6, r6, ks6, vs6, a6, b6, c6, d6, o6, rfl, hr, hk6, hv6, hb9⟩
    have bm9 := hid (bm8.out.below hb9)
    have bx9 := hid (bx8.out.below hb9)
    have by9 := hid (by8.out.below hb9)
    have bel9 := hid (bel8.out.to hb9)
    clear bm8 bx8 by8 bel8 hb9
    have rO9 := hid hr
    clear hr
    obtain ⟨cm0, cm1, cm2, cm3, cm4⟩ := bm9.out.cl
    have cml := bm9.out.lt
    obtain ⟨cx0, cx1, cx2, cx3, cx4⟩ := bx9.out.cl
    have cxl := bx9.out.lt
    go_wp2_with fail
    clear cm0 cm1 cm2 cm3 cm4 cml cx0 cx1 cx2 cx3 cx4 cxl
    have bo10 := hid (TB.new rO9.out k6 s6 r6)
    have bm10 := hid (bm9.out.alloc (.cells #[.int .i64 k6, .int .i64 s6, .int .i64 r6, .slice a6 ks6.length c6, .slice b6 vs6.length d6] 28))
    have bx10 := hid (bx9.out.alloc (.cells #[.int .i64 k6, .int .i64 s6, .int .i64 r6, .slice a6 ks6.length c6, .slice b6 vs6.length d6] 28))
    have by10 := hid (by9.out.alloc (.cells #[.int .i64 k6, .int .i64 s6, .int .i64 r6, .slice a6 ks6.length c6, .slice b6 vs6.length d6] 28))
    have bel10 := hid (bel9.out.alloc bel9.out.size (.cells #[.int .i64 k6, .int .i64 s6, .int .i64 r6, .slice a6 ks6.length c6, .slice b6 vs6.length d6] 28))
    have leo := bel9.out.size
    clear bm9 bx9 by9 rO9 bel9
    generalize w9.alloc (.cells #[.int .i64 k6, .int .i64 s6, .int .i64 r6, .slice a6 ks6.length c6, .slice b6 vs6.length d6] 28) = w10 at *
    generalize w9.heap.size = o at *
    obtain ⟨va, qa, hla⟩ : ∃ v q, lookT k s r ks vs o6 = (v, q) := ⟨_, _, rfl⟩
    obtain ⟨vb, qb, hlb⟩ : ∃ v q, lookT k s r KS VS o6 = (v, q) := ⟨_, _, rfl⟩
    have hab : (o6 == key) = false → qa = qb ∧ va = vb := by
      intro ho
      have := HOT.out o6 ho
      rw [hla, hlb] at this
      simp only [Prod.mk.injEq] at this
      exact ⟨this.2.symm, this.1.symm⟩
    have HA := hid hla
    have HB := hid hlb
    have HAB := hid hab
    clear hla hlb hab
    refine (look_o k s r ks vs a1 b1 c1 d1 o6 _ bm10.out.rw hk hv).mono ?_
    rw [HA.out]
    dsimp only
    rintro e w11 ⟨rfl, hb11⟩
    have bm11 := hid (bm10.out.below hb11)
    have bx11 := hid (bx10.out.below hb11)
    have by11 := hid (by10.out.below hb11)
    have bo11 := hid (bo10.out.below hb11)
    have bel11 := hid (bel10.out.to hb11)
    clear bm10 bx10 by10 bo10 bel10 hb11
    obtain ⟨cm0, cm1, cm2, cm3, cm4⟩ := bm11.out.cl
    have cml := bm11.out.lt
    obtain ⟨cx0, cx1, cx2, cx3, cx4⟩ := bx11.out.cl
    have cxl := bx11.out.lt
    go_wp2_with fail
    clear cm0 cm1 cm2 cm3 cm4 cml cx0 cx1 cx2 cx3 cx4 cxl
    refine (look_o k s r KS VS a3 b3 c3 d3 o6 _ bx11.out.rw hKS hVS).mono ?_
    rw [HB.out]
    dsimp only
    rintro e w12 ⟨rfl, hb12⟩
    have bm12 := hid (bm11.out.below hb12)
    have bx12 := hid (bx11.out.below hb12)
    have by12 := hid (by11.out.below hb12)
    have bo12 := hid (bo11.out.below hb12)
    have bel12 := hid (bel11.out.to hb12)
    clear bm11 bx11 by11 bo11 bel11 hb12
    obtain ⟨cm0, cm1, cm2, cm3, cm4⟩ := bm12.out.cl
    have cml := bm12.out.lt
    obtain ⟨cx0, cx1, cx2, cx3, cx4⟩ := bx12.out.cl
    have cxl := bx12.out.lt
    go_wp2_with fail
    clear cm0 cm1 cm2 cm3 cm4 cml cx0 cx1 cx2 cx3 cx4 cxl
    refine (ok_o k s r KS VS a3 b3 c3 d3 _ bx12.out.rw hKS hVS).mono ?_
    rw [HOX.out]
    rintro e w13 ⟨rfl, hb13⟩
    have bm13 := hid (bm12.out.below hb13)
    have bx13 := hid (bx12.out.below hb13)
    have by13 := hid (by12.out.below hb13)
    have bo13 := hid (bo12.out.below hb13)
    have bel13 := hid (bel12.out.to hb13)
    clear bm12 bx12 by12 bo12 bel12 hb13
    cases ho : (o6 == key)
    · obtain ⟨rfl, rfl⟩ := HAB.out ho
      go_wp2_with fail
      go_ret
      exact ⟨rfl, bel13.out⟩
    · go_wp2_with fail
      go_ret
      exact ⟨rfl, bel13.out⟩
  · have HOK := hid hok
    have HP := hid hp
    clear hok hp
    go_wp2_with fail
    have bm2 := hid (TB.new rT1.out k s r)
    have bel2 := hid (bel1.out.alloc bel1.out.size (.cells #[.int .i64 k, .int .i64 s, .int .i64 r, .slice a1 ks.length c1, .slice b1 vs.length d1] 28))
    have lem := bel1.out.size
    clear rT1 bel1
    generalize w1.alloc (.cells #[.int .i64 k, .int .i64 s, .int .i64 r, .slice a1 ks.length c1, .slice b1 vs.length d1] 28) = w2 at *
    generalize w1.heap.size = m at *
    refine (put_o k s r ks vs a1 b1 c1 d1 key val hval _ bm2.out.rw hk hv).mono ?_
    rw [HP.out]
    dsimp only
    rintro e w3 ⟨a3, b3, c3, d3, rfl, hr, hb3⟩
    have bm3 := hid (bm2.out.below hb3)
    have bel3 := hid (bel2.out.to hb3)
    clear bm2 bel2 hb3
    have rX3 := hid hr
    clear hr
    obtain ⟨cm0, cm1, cm2, cm3, cm4⟩ := bm3.out.cl
    have cml := bm3.out.lt
    go_wp2_with fail
    clear cm0 cm1 cm2 cm3 cm4 cml
    have bx4 := hid (TB.new rX3.out k s r)
    have bm4 := hid (bm3.out.alloc (.cells #[.int .i64 k, .int .i64 s, .int .i64 r, .slice a3 ks.length c3, .slice b3 vs.length d3] 28))
    have bel4 := hid (bel3.out.alloc bel3.out.size (.cells #[.int .i64 k, .int .i64 s, .int .i64 r, .slice a3 ks.length c3, .slice b3 vs.length d3] 28))
    have lex := bel3.out.size
    clear bm3 rX3 bel3
    generalize w3.alloc (.cells #[.int .i64 k, .int .i64 s, .int .i64 r, .slice a3 ks.length c3, .slice b3 vs.length d3] 28) = w4 at *
    generalize w3.heap.size = x at *
    refine (sput_o k s r ks vs a1 b1 c1 d1 key val hval _ bm4.out.rw hk hv).mono ?_
    rw [HP.out]
    dsimp only
    rintro e w5 ⟨a4, b4, c4, d4, rfl, hr, hb5⟩
    have bm5 := hid (bm4.out.below hb5)
    have bx5 := hid (bx4.out.below hb5)
    have bel5 := hid (bel4.out.to hb5)
    clear bm4 bx4 bel4 hb5
    have rY5 := hid hr
    clear hr
    obtain ⟨cm0, cm1, cm2, cm3, cm4⟩ := bm5.out.cl
    have cml := bm5.out.lt
    obtain ⟨cx0, cx1, cx2, cx3, cx4⟩ := bx5.out.cl
    have cxl := bx5.out.lt
    go_wp2_with fail
    clear cm0 cm1 cm2 cm3 cm4 cml cx0 cx1 cx2 cx3 cx4 cxl
    have by6 := hid (TB.new rY5.out k s r)
    have bm6 := hid (bm5.out.alloc (.cells #[.int .i64 k, .int .i64 s, .int .i64 r, .slice a4 ks.length c4, .slice b4 vs.length d4] 28))
    have bx6 := hid (bx5.out.alloc (.cells #[.int .i64 k, .int .i64 s, .int .i64 r, .slice a4 ks.length c4, .slice b4 vs.length d4] 28))
    have bel6 := hid (bel5.out.alloc bel5.out.size (.cells #[.int .i64 k, .int .i64 s, .int .i64 r, .slice a4 ks.length c4, .slice b4 vs.length d4] 28))
    have ley := bel5.out.size
    clear bm5 bx5 rY5 bel5
    generalize w5.alloc (.cells #[.int .i64 k, .int .i64 s, .int .i64 r, .slice a4 ks.length c4, .slice b4 vs.length d4] 28) = w6 at *
    generalize w5.heap.size = y at *
    refine wp_region_held_drew (S := (fun w' => w'.cell? ⟨m, 0, none⟩ = some (.int .i64 k) ∧ w'.cell? ⟨m, 1, none⟩ = some (.int .i64 s) ∧ w'.cell? ⟨m, 2, none⟩ = some (.int .i64 r) ∧ w'.cell? ⟨m, 3, none⟩ = some (.slice a1 ks.length c1) ∧ w'.cell? ⟨m, 4, none⟩ = some (.slice b1 vs.length d1) ∧ w'.cell? ⟨x, 0, none⟩ = some (.int .i64 k) ∧ w'.cell? ⟨x, 1, none⟩ = some (.int .i64 s) ∧ w'.cell? ⟨x, 2, none⟩ = some (.int .i64 r) ∧ w'.cell? ⟨x, 3, none⟩ = some (.slice a3 ks.length c3) ∧ w'.cell? ⟨x, 4, none⟩ = some (.slice b3 vs.length d3) ∧ w'.cell? ⟨y, 0, none⟩ = some (.int .i64 k) ∧ w'.cell? ⟨y, 1, none⟩ = some (.int .i64 s) ∧ w'.cell? ⟨y, 2, none⟩ = some (.int .i64 r) ∧ w'.cell? ⟨y, 3, none⟩ = some (.slice a4 ks.length c4) ∧ w'.cell? ⟨y, 4, none⟩ = some (.slice b4 vs.length d4))) (by kernel_rfl) (by exact ⟨bm6.out.cl.1, bm6.out.cl.2.1, bm6.out.cl.2.2.1, bm6.out.cl.2.2.2.1, bm6.out.cl.2.2.2.2, bx6.out.cl.1, bx6.out.cl.2.1, bx6.out.cl.2.2.1, bx6.out.cl.2.2.2.1, bx6.out.cl.2.2.2.2, by6.out.cl.1, by6.out.cl.2.1, by6.out.cl.2.2.1, by6.out.cl.2.2.2.1, by6.out.cl.2.2.2.2⟩) (fun hHeld => ?_)
    have hm := hid (bm6.out.drew)
    have hx := hid (bx6.out.drew)
    have hy := hid (by6.out.drew)
    have hbel := hid (Below.drew bel6.out)
    clear bm6 bx6 by6 bel6
    generalize w6.drew = W1 at *
    refine wpAnyH_take (i := 0) (oi := ?oi59) (v := ?v59) (fuel := 20) ?hi59 ?hs59 ?hf59 ?hr59 ?hq59 (Or.inl ⟨?hw59, ?hy59⟩) hHeld ?rest59
    case hi59 => rw [List.getElem?_toArray]; rfl
    case hq59 => exact fun _ _ _ h => h
    case hs59 | hf59 | hr59 => kernel_rfl
    case hw59 => rfl
    case hy59 => (intro w1 hSw; (try dsimp only at hSw); go_simp; try with_reducible rfl)
    (try simp only [Act.put, List.setIfInBounds_toArray, List.set_cons_zero, List.set_cons_succ])
    refine wpAnyH_take (i := 1) (oi := ?oi60) (v := ?v60) (fuel := 19) ?hi60 ?hs60 ?hf60 ?hr60 ?hq60 (Or.inl ⟨?hw60, ?hy60⟩) hHeld ?rest60
    case hi60 => rw [List.getElem?_toArray]; rfl
    case hq60 => exact fun _ _ _ h => h
    case hs60 | hf60 | hr60 => kernel_rfl
    case hw60 => rfl
    case hy60 => (intro w1 hSw; (try dsimp only at hSw); go_simp; try with_reducible rfl)
    (try simp only [Act.put, List.setIfInBounds_toArray, List.set_cons_zero, List.set_cons_succ])
    refine wpAnyH_take (i := 2) (oi := ?oi61) (v := ?v61) (fuel := 18) ?hi61 ?hs61 ?hf61 ?hr61 ?hq61 (Or.inl ⟨?hw61, ?hy61⟩) hHeld ?rest61
    case hi61 => rw [List.getElem?_toArray]; rfl
    case hq61 => exact fun _ _ _ h => h
    case hs61 | hf61 | hr61 => kernel_rfl
    case hw61 => rfl
    case hy61 => (intro w1 hSw; (try dsimp only at hSw); go_simp; try with_reducible rfl)
    (try simp only [Act.put, List.setIfInBounds_toArray, List.set_cons_zero, List.set_cons_succ])
    refine wpAnyH_take (i := 3) (oi := ?oi62) (v := ?v62) (fuel := 17) ?hi62 ?hs62 ?hf62 ?hr62 ?hq62 (Or.inl ⟨?hw62, ?hy62⟩) hHeld ?rest62
    case hi62 => rw [List.getElem?_toArray]; rfl
    case hq62 => exact fun _ _ _ h => h
    case hs62 | hf62 | hr62 => kernel_rfl
    case hw62 => rfl
    case hy62 => (intro w1 hSw; (try dsimp only at hSw); go_simp; try with_reducible rfl)
    (try simp only [Act.put, List.setIfInBounds_toArray, List.set_cons_zero, List.set_cons_succ])
    refine wpAnyH_take (i := 4) (oi := ?oi63) (v := ?v63) (fuel := 16) ?hi63 ?hs63 ?hf63 ?hr63 ?hq63 (Or.inl ⟨?hw63, ?hy63⟩) hHeld ?rest63
    case hi63 => rw [List.getElem?_toArray]; rfl
    case hq63 => exact fun _ _ _ h => h
    case hs63 | hf63 | hr63 => kernel_rfl
    case hw63 => rfl
    case hy63 => (intro w1 hSw; (try dsimp only at hSw); go_simp; try with_reducible rfl)
    (try simp only [Act.put, List.setIfInBounds_toArray, List.set_cons_zero, List.set_cons_succ])
    refine wpAnyH_take (i := 5) (oi := ?oi64) (v := ?v64) (fuel := 15) ?hi64 ?hs64 ?hf64 ?hr64 ?hq64 (Or.inl ⟨?hw64, ?hy64⟩) hHeld ?rest64
    case hi64 => rw [List.getElem?_toArray]; rfl
    case hq64 => exact fun _ _ _ h => h
    case hs64 | hf64 | hr64 => kernel_rfl
    case hw64 => rfl
    case hy64 => (intro w1 hSw; (try dsimp only at hSw); go_simp; try with_reducible rfl)
    (try simp only [Act.put, List.setIfInBounds_toArray, List.set_cons_zero, List.set_cons_succ])
    refine wpAnyH_ready (fuel := 14) (rs := [6]) (by kernel_rfl) (by simp) ?_
    refine AllReadyH.cons (o := ?oi65) ?hi65 (fun K hK => ?st65) AllReadyH.nil
    case hi65 => rw [List.getElem?_toArray]; rfl
    go_simp
    refine (sg_o k s r ks vs a3 b3 a4 b4 c3 d3 c4 d4 _ hx.out.rw hy.out.rw hk hv).mono ?_
    rintro ee wr6 ⟨rfl, hbn⟩
    replace hm := hid (hm.out.below hbn)
    replace hx := hid (hx.out.below hbn)
    replace hy := hid (hy.out.below hbn)
    replace hbel := hid (hbel.out.to hbn)
    clear hbn
    go_wp2_with fail
    refine hK.out _ _ ?hS65 (fun hHeld => ?re65)
    case hS65 => exact ⟨hm.out.cl.1, hm.out.cl.2.1, hm.out.cl.2.2.1, hm.out.cl.2.2.2.1, hm.out.cl.2.2.2.2, hx.out.cl.1, hx.out.cl.2.1, hx.out.cl.2.2.1, hx.out.cl.2.2.2.1, hx.out.cl.2.2.2.2, hy.out.cl.1, hy.out.cl.2.1, hy.out.cl.2.2.1, hy.out.cl.2.2.2.1, hy.out.cl.2.2.2.2⟩
    clear hK K
    (try simp only [Act.put, List.setIfInBounds_toArray, List.set_cons_zero, List.set_cons_succ])
    refine wpAnyH_take (i := 7) (oi := ?oi66) (v := ?v66) (fuel := 13) ?hi66 ?hs66 ?hf66 ?hr66 ?hq66 (Or.inl ⟨?hw66, ?hy66⟩) hHeld ?rest66
    case hi66 => rw [List.getElem?_toArray]; rfl
    case hq66 => exact fun _ _ _ h => h
    case hs66 | hf66 | hr66 => kernel_rfl
    case hw66 => rfl
    case hy66 => (intro w1 hSw; (try dsimp only at hSw); go_simp; try with_reducible rfl)
    (try simp only [Act.put, List.setIfInBounds_toArray, List.set_cons_zero, List.set_cons_succ])
    refine wpAnyH_take (i := 8) (oi := ?oi67) (v := ?v67) (fuel := 12) ?hi67 ?hs67 ?hf67 ?hr67 ?hq67 (Or.inl ⟨?hw67, ?hy67⟩) hHeld ?rest67
    case hi67 => rw [List.getElem?_toArray]; rfl
    case hq67 => exact fun _ _ _ h => h
    case hs67 | hf67 | hr67 => kernel_rfl
    case hw67 => rfl
    case hy67 => (intro w1 hSw; (try dsimp only at hSw); go_simp; try with_reducible rfl)
    (try simp only [Act.put, List.setIfInBounds_toArray, List.set_cons_zero, List.set_cons_succ])
    refine wpAnyH_take (i := 9) (oi := ?oi68) (v := ?v68) (fuel := 11) ?hi68 ?hs68 ?hf68 ?hr68 ?hq68 (Or.inl ⟨?hw68, ?hy68⟩) hHeld ?rest68
    case hi68 => rw [List.getElem?_toArray]; rfl
    case hq68 => exact fun _ _ _ h => h
    case hs68 | hf68 | hr68 => kernel_rfl
    case hw68 => rfl
    case hy68 => (intro w1 hSw; (try dsimp only at hSw); go_simp; try with_reducible rfl)
    (try simp only [Act.put, List.setIfInBounds_toArray, List.set_cons_zero, List.set_cons_succ])
    refine wpAnyH_take (i := 10) (oi := ?oi69) (v := ?v69) (fuel := 10) ?hi69 ?hs69 ?hf69 ?hr69 ?hq69 (Or.inl ⟨?hw69, ?hy69⟩) hHeld ?rest69
    case hi69 => rw [List.getElem?_toArray]; rfl
    case hq69 => exact fun _ _ _ h => h
    case hs69 | hf69 | hr69 => kernel_rfl
    case hw69 => rfl
    case hy69 => (intro w1 hSw; (try dsimp only at hSw); go_simp; try with_reducible rfl)
    (try simp only [Act.put, List.setIfInBounds_toArray, List.set_cons_zero, List.set_cons_succ])
    refine wpAnyH_take (i := 12) (oi := ?oi70) (v := ?v70) (fuel := 9) ?hi70 ?hs70 ?hf70 ?hr70 ?hq70 (Or.inl ⟨?hw70, ?hy70⟩) hHeld ?rest70
    case hi70 => rw [List.getElem?_toArray]; rfl
    case hq70 => exact fun _ _ _ h => h
    case hs70 | hf70 | hr70 => kernel_rfl
    case hw70 => rfl
    case hy70 => (intro w1 hSw; (try dsimp only at hSw); go_simp; try with_reducible rfl)
    (try simp only [Act.put, List.setIfInBounds_toArray, List.set_cons_zero, List.set_cons_succ])
    refine wpAnyH_ready (fuel := 8) (rs := [11]) (by kernel_rfl) (by simp) ?_
    refine AllReadyH.cons (o := ?oi71) ?hi71 (fun K hK => ?st71) AllReadyH.nil
    case hi71 => rw [List.getElem?_toArray]; rfl
    go_simp
    refine (ok_o k s r ks vs a1 b1 c1 d1 _ hm.out.rw hk hv).mono ?_
    rw [HOK.out]
    rintro ee wr11 ⟨rfl, hbn⟩
    replace hm := hid (hm.out.below hbn)
    replace hx := hid (hx.out.below hbn)
    replace hy := hid (hy.out.below hbn)
    replace hbel := hid (hbel.out.to hbn)
    clear hbn
    go_wp2_with fail
    refine hK.out _ _ ?hS71 (fun hHeld => ?re71)
    case hS71 => exact ⟨hm.out.cl.1, hm.out.cl.2.1, hm.out.cl.2.2.1, hm.out.cl.2.2.2.1, hm.out.cl.2.2.2.2, hx.out.cl.1, hx.out.cl.2.1, hx.out.cl.2.2.1, hx.out.cl.2.2.2.1, hx.out.cl.2.2.2.2, hy.out.cl.1, hy.out.cl.2.1, hy.out.cl.2.2.1, hy.out.cl.2.2.2.1, hy.out.cl.2.2.2.2⟩
    clear hK K
    (try simp only [Act.put, List.setIfInBounds_toArray, List.set_cons_zero, List.set_cons_succ])
    refine wpAnyH_ready (fuel := 7) (rs := [13]) (by kernel_rfl) (by simp) ?_
    refine AllReadyH.cons (o := ?oi72) ?hi72 (fun K hK => ?st72) AllReadyH.nil
    case hi72 => rw [List.getElem?_toArray]; rfl
    go_simp
    refine (sok_o k s r ks vs a1 b1 c1 d1 _ hm.out.rw hk hv).mono ?_
    rw [HOK.out]
    rintro ee wr13 ⟨rfl, hbn⟩
    replace hm := hid (hm.out.below hbn)
    replace hx := hid (hx.out.below hbn)
    replace hy := hid (hy.out.below hbn)
    replace hbel := hid (hbel.out.to hbn)
    clear hbn
    go_wp2_with fail
    refine hK.out _ _ ?hS72 (fun hHeld => ?re72)
    case hS72 => exact ⟨hm.out.cl.1, hm.out.cl.2.1, hm.out.cl.2.2.1, hm.out.cl.2.2.2.1, hm.out.cl.2.2.2.2, hx.out.cl.1, hx.out.cl.2.1, hx.out.cl.2.2.1, hx.out.cl.2.2.2.1, hx.out.cl.2.2.2.2, hy.out.cl.1, hy.out.cl.2.1, hy.out.cl.2.2.1, hy.out.cl.2.2.2.1, hy.out.cl.2.2.2.2⟩
    clear hK K
    (try simp only [Act.put, List.setIfInBounds_toArray, List.set_cons_zero, List.set_cons_succ])
    refine wpAnyH_take (i := 14) (oi := ?oi73) (v := ?v73) (fuel := 6) ?hi73 ?hs73 ?hf73 ?hr73 ?hq73 (Or.inl ⟨?hw73, ?hy73⟩) hHeld ?rest73
    case hi73 => rw [List.getElem?_toArray]; rfl
    case hq73 => exact fun _ _ _ h => h
    case hs73 | hf73 | hr73 => kernel_rfl
    case hw73 => rfl
    case hy73 => (intro w1 hSw; (try dsimp only at hSw); go_simp; try with_reducible rfl)
    (try simp only [Act.put, List.setIfInBounds_toArray, List.set_cons_zero, List.set_cons_succ])
    refine wpAnyH_take (i := 15) (oi := ?oi74) (v := ?v74) (fuel := 5) ?hi74 ?hs74 ?hf74 ?hr74 ?hq74 (Or.inl ⟨?hw74, ?hy74⟩) hHeld ?rest74
    case hi74 => rw [List.getElem?_toArray]; rfl
    case hq74 => exact fun _ _ _ h => h
    case hs74 | hf74 | hr74 => kernel_rfl
    case hw74 => rfl
    case hy74 => (intro w1 hSw; (try dsimp only at hSw); go_simp; try with_reducible rfl)
    (try simp only [Act.put, List.setIfInBounds_toArray, List.set_cons_zero, List.set_cons_succ])
    refine wpAnyH_take (i := 16) (oi := ?oi75) (v := ?v75) (fuel := 4) ?hi75 ?hs75 ?hf75 ?hr75 ?hq75 (Or.inl ⟨?hw75, ?hy75⟩) hHeld ?rest75
    case hi75 => rw [List.getElem?_toArray]; rfl
    case hq75 => exact fun _ _ _ h => h
    case hs75 | hf75 | hr75 => kernel_rfl
    case hw75 => rfl
    case hy75 => (intro w1 hSw; (try dsimp only at hSw); go_simp; try with_reducible rfl)
    (try simp only [Act.put, List.setIfInBounds_toArray, List.set_cons_zero, List.set_cons_succ])
    refine wpAnyH_take (i := 17) (oi := ?oi76) (v := ?v76) (fuel := 3) ?hi76 ?hs76 ?hf76 ?hr76 ?hq76 (Or.inl ⟨?hw76, ?hy76⟩) hHeld ?rest76
    case hi76 => rw [List.getElem?_toArray]; rfl
    case hq76 => exact fun _ _ _ h => h
    case hs76 | hf76 | hr76 => kernel_rfl
    case hw76 => rfl
    case hy76 => (intro w1 hSw; (try dsimp only at hSw); go_simp; try with_reducible rfl)
    (try simp only [Act.put, List.setIfInBounds_toArray, List.set_cons_zero, List.set_cons_succ])
    refine wpAnyH_ready (fuel := 2) (rs := [18]) (by kernel_rfl) (by simp) ?_
    refine AllReadyH.cons (o := ?oi77) ?hi77 (fun K hK => ?st77) AllReadyH.nil
    case hi77 => rw [List.getElem?_toArray]; rfl
    go_simp
    refine (ok_o k s r ks vs a1 b1 c1 d1 _ hm.out.rw hk hv).mono ?_
    rw [HOK.out]
    rintro ee wr18 ⟨rfl, hbn⟩
    replace hm := hid (hm.out.below hbn)
    replace hx := hid (hx.out.below hbn)
    replace hy := hid (hy.out.below hbn)
    replace hbel := hid (hbel.out.to hbn)
    clear hbn
    go_wp2_with fail
    refine hK.out _ _ ?hS77 (fun hHeld => ?re77)
    case hS77 => exact ⟨hm.out.cl.1, hm.out.cl.2.1, hm.out.cl.2.2.1, hm.out.cl.2.2.2.1, hm.out.cl.2.2.2.2, hx.out.cl.1, hx.out.cl.2.1, hx.out.cl.2.2.1, hx.out.cl.2.2.2.1, hx.out.cl.2.2.2.2, hy.out.cl.1, hy.out.cl.2.1, hy.out.cl.2.2.1, hy.out.cl.2.2.2.1, hy.out.cl.2.2.2.2⟩
    clear hK K
    (try simp only [Act.put, List.setIfInBounds_toArray, List.set_cons_zero, List.set_cons_succ])
    refine wpAnyH_take (i := 19) (oi := ?oi78) (v := ?v78) (fuel := 1) ?hi78 ?hs78 ?hf78 ?hr78 ?hq78 (Or.inl ⟨?hw78, ?hy78⟩) hHeld ?rest78
    case hi78 => rw [List.getElem?_toArray]; rfl
    case hq78 => exact fun _ _ _ h => h
    case hs78 | hf78 | hr78 => kernel_rfl
    case hw78 => rfl
    case hy78 => (intro w1 hSw; (try dsimp only at hSw); go_simp; try with_reducible rfl)
    (try simp only [Act.put, List.setIfInBounds_toArray, List.set_cons_zero, List.set_cons_succ])
    refine wpAnyH_take (i := 20) (oi := ?oi79) (v := ?v79) (fuel := 0) ?hi79 ?hs79 ?hf79 ?hr79 ?hq79 (Or.inl ⟨?hw79, ?hy79⟩) hHeld ?rest79
    case hi79 => rw [List.getElem?_toArray]; rfl
    case hq79 => exact fun _ _ _ h => h
    case hs79 | hf79 | hr79 => kernel_rfl
    case hw79 => rfl
    case hy79 => (intro w1 hSw; (try dsimp only at hSw); go_simp; try with_reducible rfl)
    (try simp only [Act.put, List.setIfInBounds_toArray, List.set_cons_zero, List.set_cons_succ])
    refine wpAnyH_done (by kernel_rfl) ?_ _
    clear hHeld
    generalize wr18 = w7 at *
    have bm7 := hm
    have bx7 := hx
    have by7 := hy
    have bel7 := hbel
    clear hbel hm hx hy
    obtain ⟨cm0, cm1, cm2, cm3, cm4⟩ := bm7.out.cl
    have cml := bm7.out.lt
    obtain ⟨cx0, cx1, cx2, cx3, cx4⟩ := bx7.out.cl
    have cxl := bx7.out.lt
    obtain ⟨cy0, cy1, cy2, cy3, cy4⟩ := by7.out.cl
    have cyl := by7.out.lt
    go_wp2_with fail
    clear cm0 cm1 cm2 cm3 cm4 cml cx0 cx1 cx2 cx3 cx4 cxl cy0 cy1 cy2 cy3 cy4 cyl
    refine (sg_o k s r ks vs a3 b3 a1 b1 c3 d3 c1 d1 _ bx7.out.rw bm7.out.rw hk hv).mono ?_
    rintro e w8 ⟨rfl, hb8⟩
    have bm8 := hid (bm7.out.below hb8)
    have bx8 := hid (bx7.out.below hb8)
    have by8 := hid (by7.out.below hb8)
    have bel8 := hid (bel7.out.to hb8)
    clear bm7 bx7 by7 bel7 hb8
    go_wp2_with fail
    go_ret
    exact ⟨rfl, bel8.out⟩
end Go.Proofs.Ytahbicegmioplaa
