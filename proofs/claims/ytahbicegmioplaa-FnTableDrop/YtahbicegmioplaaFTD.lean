/- The law of TableDrop, drawn. -/
import Derived.Test.YtahbicegmioplaaPD
namespace Go.Proofs.Ytahbicegmioplaa
open Go.RowKit
set_option linter.unusedVariables false
set_option linter.unusedSimpArgs false

set_option maxRecDepth 100000 in
set_option maxHeartbeats 4000000 in
theorem law_fnTableDrop (w : World) (a : Option Addr) (len cap : Nat) (hc : len ≤ cap) (hs : Src w a len) (hl : cap < 2 ^ 63) :
    Calls Try.prog 5 #[.slice a len cap] w fun e w' => e = .returned (.bool true) ∧ Below w.heap.size w w' := by
  have HS := hid hs
  clear hs
  go_enter Try.func5, Try.ntmps5
  go_wp2_with fail
  · go_ret
    exact ⟨rfl, Below.refl _ _⟩
  refine (drawDrop_s w a len cap hc HS.out hl).mono ?_
  rintro e w1 ⟨k, s, r, ks, vs, a1, b1, c1, d1, key, rfl, hr, hk0, hv0, hb1⟩
  have bel1 := hid hb1
  have rT1 := hid hr
  have hk : ks.length ≤ 1048576 := by omega
  have hv : vs.length ≤ 1048576 := by omega
  clear hb1 hr
  cases hok : okB k s r ks vs
  · have HOK := hid hok
    obtain ⟨KS, eKS⟩ : ∃ x : List Int, x = [] := ⟨_, rfl⟩
    obtain ⟨VS, eVS⟩ : ∃ x : List ByteArray, x = [] := ⟨_, rfl⟩
    have HD : Hid (dropT k s r ks vs key = (⟨0, 0, 0, KS, VS, 0⟩, false)) := by show dropT k s r ks vs key = _; rw [eKS, eVS]; unfold dropT; rw [hok]; rfl
    have hKS : KS.length ≤ 1048576 := by rw [eKS]; simp
    have hVS : VS.length ≤ 1048576 := by rw [eVS]; simp
    clear hok eKS eVS
    go_wp2_with fail
    have bm2 := hid (TB.new rT1.out k s r)
    have bel2 := hid (bel1.out.alloc bel1.out.size (.cells #[.int .i64 k, .int .i64 s, .int .i64 r, .slice a1 ks.length c1, .slice b1 vs.length d1] 28))
    have lem := bel1.out.size
    clear rT1 bel1
    generalize w1.alloc (.cells #[.int .i64 k, .int .i64 s, .int .i64 r, .slice a1 ks.length c1, .slice b1 vs.length d1] 28) = w2 at *
    generalize w1.heap.size = m at *
    refine (drop_o k s r ks vs a1 b1 c1 d1 key _ bm2.out.rw hk hv).mono ?_
    rw [HD.out]
    dsimp only
    rintro e w3 ⟨a3, b3, c3, d3, rfl, hr, hb3⟩
    have bm3 := hid (bm2.out.below hb3)
    have bel3 := hid (bel2.out.to hb3)
    clear bm2 bel2 hb3
    have rX3 := hid hr
    clear hr
    obtain ⟨cm0, cm1, cm2, cm3, cm4⟩ := bm3.out.cl
    have cml := bm3.out.lt
    go_wp2_with fail
    clear cm0 cm1 cm2 cm3 cm4 cml
    have bx4 := hid (TB.new rX3.out 0 0 0)
    have bm4 := hid (bm3.out.alloc (.cells #[.int .i64 0, .int .i64 0, .int .i64 0, .slice a3 KS.length c3, .slice b3 VS.length d3] 28))
    have bel4 := hid (bel3.out.alloc bel3.out.size (.cells #[.int .i64 0, .int .i64 0, .int .i64 0, .slice a3 KS.length c3, .slice b3 VS.length d3] 28))
    have lex := bel3.out.size
    clear bm3 rX3 bel3
    generalize w3.alloc (.cells #[.int .i64 0, .int .i64 0, .int .i64 0, .slice a3 KS.length c3, .slice b3 VS.length d3] 28) = w4 at *
    generalize w3.heap.size = x at *
    refine (sdrop_o k s r ks vs a1 b1 c1 d1 key _ bm4.out.rw hk hv).mono ?_
    rw [HD.out]
    dsimp only
    rintro e w5 ⟨a4, b4, c4, d4, rfl, hr, hb5⟩
    have bm5 := hid (bm4.out.below hb5)
    have bx5 := hid (bx4.out.below hb5)
    have bel5 := hid (bel4.out.to hb5)
    clear bm4 bx4 bel4 hb5
    have rY5 := hid hr
    clear hr
    obtain ⟨cm0, cm1, cm2, cm3, cm4⟩ := bm5.out.cl
    have cml := bm5.out.lt
    obtain ⟨cx0, cx1, cx2, cx3, cx4⟩ := bx5.out.cl
    have cxl := bx5.out.lt
    go_wp2_with fail
    clear cm0 cm1 cm2 cm3 cm4 cml cx0 cx1 cx2 cx3 cx4 cxl
    have by6 := hid (TB.new rY5.out 0 0 0)
    have bm6 := hid (bm5.out.alloc (.cells #[.int .i64 0, .int .i64 0, .int .i64 0, .slice a4 KS.length c4, .slice b4 VS.length d4] 28))
    have bx6 := hid (bx5.out.alloc (.cells #[.int .i64 0, .int .i64 0, .int .i64 0, .slice a4 KS.length c4, .slice b4 VS.length d4] 28))
    have bel6 := hid (bel5.out.alloc bel5.out.size (.cells #[.int .i64 0, .int .i64 0, .int .i64 0, .slice a4 KS.length c4, .slice b4 VS.length d4] 28))
    have ley := bel5.out.size
    clear bm5 bx5 rY5 bel5
    generalize w5.alloc (.cells #[.int .i64 0, .int .i64 0, .int .i64 0, .slice a4 KS.length c4, .slice b4 VS.length d4] 28) = w6 at *
    generalize w5.heap.size = y at *
    obtain ⟨cm0, cm1, cm2, cm3, cm4⟩ := bm6.out.cl
    have cml := bm6.out.lt
    obtain ⟨cx0, cx1, cx2, cx3, cx4⟩ := bx6.out.cl
    have cxl := bx6.out.lt
    obtain ⟨cy0, cy1, cy2, cy3, cy4⟩ := by6.out.cl
    have cyl := by6.out.lt
    go_wp2_with fail
    clear cm0 cm1 cm2 cm3 cm4 cml cx0 cx1 cx2 cx3 cx4 cxl cy0 cy1 cy2 cy3 cy4 cyl
    refine (sg_o 0 0 0 KS VS a3 b3 a4 b4 c3 d3 c4 d4 _ bx6.out.rw by6.out.rw hKS hVS).mono ?_
    rintro e w7 ⟨rfl, hb7⟩
    have bm7 := hid (bm6.out.below hb7)
    have bx7 := hid (bx6.out.below hb7)
    have by7 := hid (by6.out.below hb7)
    have bel7 := hid (bel6.out.to hb7)
    clear bm6 bx6 by6 bel6 hb7
    obtain ⟨cm0, cm1, cm2, cm3, cm4⟩ := bm7.out.cl
    have cml := bm7.out.lt
    obtain ⟨cx0, cx1, cx2, cx3, cx4⟩ := bx7.out.cl
    have cxl := bx7.out.lt
    obtain ⟨cy0, cy1, cy2, cy3, cy4⟩ := by7.out.cl
    have cyl := by7.out.lt
    go_wp2_with fail
    clear cm0 cm1 cm2 cm3 cm4 cml cx0 cx1 cx2 cx3 cx4 cxl cy0 cy1 cy2 cy3 cy4 cyl
    refine (ok_o k s r ks vs a1 b1 c1 d1 _ bm7.out.rw hk hv).mono ?_
    rw [HOK.out]
    rintro e w8 ⟨rfl, hb8⟩
    have bm8 := hid (bm7.out.below hb8)
    have bx8 := hid (bx7.out.below hb8)
    have by8 := hid (by7.out.below hb8)
    have bel8 := hid (bel7.out.to hb8)
    clear bm7 bx7 by7 bel7 hb8
    obtain ⟨cm0, cm1, cm2, cm3, cm4⟩ := bm8.out.cl
    have cml := bm8.out.lt
    obtain ⟨cx0, cx1, cx2, cx3, cx4⟩ := bx8.out.cl
    have cxl := bx8.out.lt
    obtain ⟨cy0, cy1, cy2, cy3, cy4⟩ := by8.out.cl
    have cyl := by8.out.lt
    go_wp2_with fail
    clear cm0 cm1 cm2 cm3 cm4 cml cx0 cx1 cx2 cx3 cx4 cxl cy0 cy1 cy2 cy3 cy4 cyl
    refine (sg_o 0 0 0 KS VS a3 b3 a4 b4 c3 d3 c4 d4 _ bx8.out.rw by8.out.rw hKS hVS).mono ?_
    rintro e w9 ⟨rfl, hb9⟩
    have bm9 := hid (bm8.out.below hb9)
    have bx9 := hid (bx8.out.below hb9)
    have by9 := hid (by8.out.below hb9)
    have bel9 := hid (bel8.out.to hb9)
    clear bm8 bx8 by8 bel8 hb9
    go_wp2_with fail
    go_ret
    exact ⟨rfl, bel9.out⟩
  rcases drop_cases k s r ks vs key hok with ⟨KS, VS, val, z, KS2, VS2, hp⟩ | ⟨hp, hlk⟩
  · have HOK := hid hok
    have HD := hid hp.eq
    have HL := hid hp.at'
    have HOX := hid hp.ok
    have HST := hid hp.still
    have HPU := hid hp.put
    have HBK := hid hp.back
    have HLEN := hid hp.len
    have hKS : KS.length ≤ 1048576 := by have := hp.lenK; omega
    have hVS : VS.length ≤ 1048576 := by have := hp.lenV; omega
    have hKS2 : KS2.length ≤ 1048576 := by have := hp.len; omega
    have hVS2 : VS2.length ≤ 1048576 := by have := hp.lenV2; omega
    have hval : val.size ≤ 1048576 := by have := hp.size; omega
    clear hok hp
    go_wp2_with fail
    have bm2 := hid (TB.new rT1.out k s r)
    have bel2 := hid (bel1.out.alloc bel1.out.size (.cells #[.int .i64 k, .int .i64 s, .int .i64 r, .slice a1 ks.length c1, .slice b1 vs.length d1] 28))
    have lem := bel1.out.size
    clear rT1 bel1
    generalize w1.alloc (.cells #[.int .i64 k, .int .i64 s, .int .i64 r, .slice a1 ks.length c1, .slice b1 vs.length d1] 28) = w2 at *
    generalize w1.heap.size = m at *
    refine (drop_o k s r ks vs a1 b1 c1 d1 key _ bm2.out.rw hk hv).mono ?_
    rw [HD.out]
    dsimp only
    rintro e w3 ⟨a3, b3, c3, d3, rfl, hr, hb3⟩
    have bm3 := hid (bm2.out.below hb3)
    have bel3 := hid (bel2.out.to hb3)
    clear bm2 bel2 hb3
    have rX3 := hid hr
    clear hr
    obtain ⟨cm0, cm1, cm2, cm3, cm4⟩ := bm3.out.cl
    have cml := bm3.out.lt
    go_wp2_with fail
    clear cm0 cm1 cm2 cm3 cm4 cml
    have bx4 := hid (TB.new rX3.out k s r)
    have bm4 := hid (bm3.out.alloc (.cells #[.int .i64 k, .int .i64 s, .int .i64 r, .slice a3 KS.length c3, .slice b3 VS.length d3] 28))
    have bel4 := hid (bel3.out.alloc bel3.out.size (.cells #[.int .i64 k, .int .i64 s, .int .i64 r, .slice a3 KS.length c3, .slice b3 VS.length d3] 28))
    have lex := bel3.out.size
    clear bm3 rX3 bel3
    generalize w3.alloc (.cells #[.int .i64 k, .int .i64 s, .int .i64 r, .slice a3 KS.length c3, .slice b3 VS.length d3] 28) = w4 at *
    generalize w3.heap.size = x at *
    refine (sdrop_o k s r ks vs a1 b1 c1 d1 key _ bm4.out.rw hk hv).mono ?_
    rw [HD.out]
    dsimp only
    rintro e w5 ⟨a4, b4, c4, d4, rfl, hr, hb5⟩
    have bm5 := hid (bm4.out.below hb5)
    have bx5 := hid (bx4.out.below hb5)
    have bel5 := hid (bel4.out.to hb5)
    clear bm4 bx4 bel4 hb5
    have rY5 := hid hr
    clear hr
    obtain ⟨cm0, cm1, cm2, cm3, cm4⟩ := bm5.out.cl
    have cml := bm5.out.lt
    obtain ⟨cx0, cx1, cx2, cx3, cx4⟩ := bx5.out.cl
    have cxl := bx5.out.lt
    go_wp2_with fail
    clear cm0 cm1 cm2 cm3 cm4 cml cx0 cx1 cx2 cx3 cx4 cxl
    have by6 := hid (TB.new rY5.out k s r)
    have bm6 := hid (bm5.out.alloc (.cells #[.int .i64 k, .int .i64 s, .int .i64 r, .slice a4 KS.length c4, .slice b4 VS.length d4] 28))
    have bx6 := hid (bx5.out.alloc (.cells #[.int .i64 k, .int .i64 s, .int .i64 r, .slice a4 KS.length c4, .slice b4 VS.length d4] 28))
    have bel6 := hid (bel5.out.alloc bel5.out.size (.cells #[.int .i64 k, .int .i64 s, .int .i64 r, .slice a4 KS.length c4, .slice b4 VS.length d4] 28))
    have ley := bel5.out.size
    clear bm5 bx5 rY5 bel5
    generalize w5.alloc (.cells #[.int .i64 k, .int .i64 s, .int .i64 r, .slice a4 KS.length c4, .slice b4 VS.length d4] 28) = w6 at *
    generalize w5.heap.size = y at *
    obtain ⟨cm0, cm1, cm2, cm3, cm4⟩ := bm6.out.cl
    have cml := bm6.out.lt
    obtain ⟨cx0, cx1, cx2, cx3, cx4⟩ := bx6.out.cl
    have cxl := bx6.out.lt
    obtain ⟨cy0, cy1, cy2, cy3, cy4⟩ := by6.out.cl
    have cyl := by6.out.lt
    go_wp2_with fail
    clear cm0 cm1 cm2 cm3 cm4 cml cx0 cx1 cx2 cx3 cx4 cxl cy0 cy1 cy2 cy3 cy4 cyl
    refine (sg_o k s r KS VS a3 b3 a4 b4 c3 d3 c4 d4 _ bx6.out.rw by6.out.rw hKS hVS).mono ?_
    rintro e w7 ⟨rfl, hb7⟩
    have bm7 := hid (bm6.out.below hb7)
    have bx7 := hid (bx6.out.below hb7)
    have by7 := hid (by6.out.below hb7)
    have bel7 := hid (bel6.out.to hb7)
    clear bm6 bx6 by6 bel6 hb7
    obtain ⟨cm0, cm1, cm2, cm3, cm4⟩ := bm7.out.cl
    have cml := bm7.out.lt
    obtain ⟨cx0, cx1, cx2, cx3, cx4⟩ := bx7.out.cl
    have cxl := bx7.out.lt
    obtain ⟨cy0, cy1, cy2, cy3, cy4⟩ := by7.out.cl
    have cyl := by7.out.lt
    go_wp2_with fail
    clear cm0 cm1 cm2 cm3 cm4 cml cx0 cx1 cx2 cx3 cx4 cxl cy0 cy1 cy2 cy3 cy4 cyl
    refine (ok_o k s r ks vs a1 b1 c1 d1 _ bm7.out.rw hk hv).mono ?_
    rw [HOK.out]
    rintro e w8 ⟨rfl, hb8⟩
    have bm8 := hid (bm7.out.below hb8)
    have bx8 := hid (bx7.out.below hb8)
    have by8 := hid (by7.out.below hb8)
    have bel8 := hid (bel7.out.to hb8)
    clear bm7 bx7 by7 bel7 hb8
    obtain ⟨cm0, cm1, cm2, cm3, cm4⟩ := bm8.out.cl
    have cml := bm8.out.lt
    obtain ⟨cx0, cx1, cx2, cx3, cx4⟩ := bx8.out.cl
    have cxl := bx8.out.lt
    obtain ⟨cy0, cy1, cy2, cy3, cy4⟩ := by8.out.cl
    have cyl := by8.out.lt
    go_wp2_with fail
    clear cm0 cm1 cm2 cm3 cm4 cml cx0 cx1 cx2 cx3 cx4 cxl cy0 cy1 cy2 cy3 cy4 cyl
    refine (look_o k s r ks vs a1 b1 c1 d1 key _ bm8.out.rw hk hv).mono ?_
    rw [HL.out]
    dsimp only
    rintro e w9 ⟨rfl, hb9⟩
    have bm9 := hid (bm8.out.below hb9)
    have bx9 := hid (bx8.out.below hb9)
    have by9 := hid (by8.out.below hb9)
    have bel9 := hid (bel8.out.to hb9)
    clear bm8 bx8 by8 bel8 hb9
    obtain ⟨cm0, cm1, cm2, cm3, cm4⟩ := bm9.out.cl
    have cml := bm9.out.lt
    obtain ⟨cx0, cx1, cx2, cx3, cx4⟩ := bx9.out.cl
    have cxl := bx9.out.lt
    obtain ⟨cy0, cy1, cy2, cy3, cy4⟩ := by9.out.cl
    have cyl := by9.out.lt
    go_wp2_with fail
    clear cm0 cm1 cm2 cm3 cm4 cml cx0 cx1 cx2 cx3 cx4 cxl cy0 cy1 cy2 cy3 cy4 cyl
    refine (look_o k s r KS VS a3 b3 c3 d3 key _ bx9.out.rw hKS hVS).mono ?_
    rw [HST.out]
    dsimp only
    rintro e w10 ⟨rfl, hb10⟩
    have bm10 := hid (bm9.out.below hb10)
    have bx10 := hid (bx9.out.below hb10)
    have by10 := hid (by9.out.below hb10)
    have bel10 := hid (bel9.out.to hb10)
    clear bm9 bx9 by9 bel9 hb10
    obtain ⟨cm0, cm1, cm2, cm3, cm4⟩ := bm10.out.cl
    have cml := bm10.out.lt
    obtain ⟨cx0, cx1, cx2, cx3, cx4⟩ := bx10.out.cl
    have cxl := bx10.out.lt
    go_wp2_with fail
    clear cm0 cm1 cm2 cm3 cm4 cml cx0 cx1 cx2 cx3 cx4 cxl
    refine (put_o k s r KS VS a3 b3 c3 d3 key val hval _ bx10.out.rw hKS hVS).mono ?_
    rw [HPU.out]
    dsimp only
    rintro e w11 ⟨a5, b5, c5, d5, rfl, hr, hb11⟩
    have bm11 := hid (bm10.out.below hb11)
    have bx11 := hid (bx10.out.below hb11)
    have by11 := hid (by10.out.below hb11)
    have bel11 := hid (bel10.out.to hb11)
    clear bm10 bx10 by10 bel10 hb11
    have rZ11 := hid hr
    clear hr
    obtain ⟨cm0, cm1, cm2, cm3, cm4⟩ := bm11.out.cl
    have cml := bm11.out.lt
    obtain ⟨cx0, cx1, cx2, cx3, cx4⟩ := bx11.out.cl
    have cxl := bx11.out.lt
    go_wp2_with fail
    clear cm0 cm1 cm2 cm3 cm4 cml cx0 cx1 cx2 cx3 cx4 cxl
    have bz12 := hid (TB.new rZ11.out k s r)
    have bm12 := hid (bm11.out.alloc (.cells #[.int .i64 k, .int .i64 s, .int .i64 r, .slice a5 KS2.length c5, .slice b5 VS2.length d5] 28))
    have bx12 := hid (bx11.out.alloc (.cells #[.int .i64 k, .int .i64 s, .int .i64 r, .slice a5 KS2.length c5, .slice b5 VS2.length d5] 28))
    have by12 := hid (by11.out.alloc (.cells #[.int .i64 k, .int .i64 s, .int .i64 r, .slice a5 KS2.length c5, .slice b5 VS2.length d5] 28))
    have bel12 := hid (bel11.out.alloc bel11.out.size (.cells #[.int .i64 k, .int .i64 s, .int .i64 r, .slice a5 KS2.length c5, .slice b5 VS2.length d5] 28))
    have lez := bel11.out.size
    clear bm11 bx11 by11 rZ11 bel11
    generalize w11.alloc (.cells #[.int .i64 k, .int .i64 s, .int .i64 r, .slice a5 KS2.length c5, .slice b5 VS2.length d5] 28) = w12 at *
    generalize w11.heap.size = z at *
    refine (look_o k s r KS2 VS2 a5 b5 c5 d5 key _ bz12.out.rw hKS2 hVS2).mono ?_
    rw [HBK.out]
    dsimp only
    rintro e w13 ⟨rfl, hb13⟩
    have bm13 := hid (bm12.out.below hb13)
    have bx13 := hid (bx12.out.below hb13)
    have by13 := hid (by12.out.below hb13)
    have bz13 := hid (bz12.out.below hb13)
    have bel13 := hid (bel12.out.to hb13)
    clear bm12 bx12 by12 bz12 bel12 hb13
    obtain ⟨cm0, cm1, cm2, cm3, cm4⟩ := bm13.out.cl
    have cml := bm13.out.lt
    obtain ⟨cx0, cx1, cx2, cx3, cx4⟩ := bx13.out.cl
    have cxl := bx13.out.lt
    obtain ⟨cz0, cz1, cz2, cz3, cz4⟩ := bz13.out.cl
    have czl := bz13.out.lt
    go_wp2_with fail
    clear cm0 cm1 cm2 cm3 cm4 cml cx0 cx1 cx2 cx3 cx4 cxl cz0 cz1 cz2 cz3 cz4 czl
    refine (ok_o k s r KS VS a3 b3 c3 d3 _ bx13.out.rw hKS hVS).mono ?_
    rw [HOX.out]
    rintro e w14 ⟨rfl, hb14⟩
    have bm14 := hid (bm13.out.below hb14)
    have bx14 := hid (bx13.out.below hb14)
    have by14 := hid (by13.out.below hb14)
    have bz14 := hid (bz13.out.below hb14)
    have bel14 := hid (bel13.out.to hb14)
    clear bm13 bx13 by13 bz13 bel13 hb14
    obtain ⟨cm0, cm1, cm2, cm3, cm4⟩ := bm14.out.cl
    have cml := bm14.out.lt
    obtain ⟨cx0, cx1, cx2, cx3, cx4⟩ := bx14.out.cl
    have cxl := bx14.out.lt
    obtain ⟨cz0, cz1, cz2, cz3, cz4⟩ := bz14.out.cl
    have czl := bz14.out.lt
    have hlen := HLEN.out
    rw [hlen] at cz3
    clear hlen
    cases hk1 : (k == 1) <;> (go_wp2_with fail; go_ret; exact ⟨rfl, bel14.out⟩)
  · have HOK := hid hok
    have HD := hid hp
    have HL := hid hlk
    clear hok hp hlk
    go_wp2_with fail
    have bm2 := hid (TB.new rT1.out k s r)
    have bel2 := hid (bel1.out.alloc bel1.out.size (.cells #[.int .i64 k, .int .i64 s, .int .i64 r, .slice a1 ks.length c1, .slice b1 vs.length d1] 28))
    have lem := bel1.out.size
    clear rT1 bel1
    generalize w1.alloc (.cells #[.int .i64 k, .int .i64 s, .int .i64 r, .slice a1 ks.length c1, .slice b1 vs.length d1] 28) = w2 at *
    generalize w1.heap.size = m at *
    refine (drop_o k s r ks vs a1 b1 c1 d1 key _ bm2.out.rw hk hv).mono ?_
    rw [HD.out]
    dsimp only
    rintro e w3 ⟨a3, b3, c3, d3, rfl, hr, hb3⟩
    have bm3 := hid (bm2.out.below hb3)
    have bel3 := hid (bel2.out.to hb3)
    clear bm2 bel2 hb3
    have rX3 := hid hr
    clear hr
    obtain ⟨cm0, cm1, cm2, cm3, cm4⟩ := bm3.out.cl
    have cml := bm3.out.lt
    go_wp2_with fail
    clear cm0 cm1 cm2 cm3 cm4 cml
    have bx4 := hid (TB.new rX3.out k s r)
    have bm4 := hid (bm3.out.alloc (.cells #[.int .i64 k, .int .i64 s, .int .i64 r, .slice a3 ks.length c3, .slice b3 vs.length d3] 28))
    have bel4 := hid (bel3.out.alloc bel3.out.size (.cells #[.int .i64 k, .int .i64 s, .int .i64 r, .slice a3 ks.length c3, .slice b3 vs.length d3] 28))
    have lex := bel3.out.size
    clear bm3 rX3 bel3
    generalize w3.alloc (.cells #[.int .i64 k, .int .i64 s, .int .i64 r, .slice a3 ks.length c3, .slice b3 vs.length d3] 28) = w4 at *
    generalize w3.heap.size = x at *
    refine (sdrop_o k s r ks vs a1 b1 c1 d1 key _ bm4.out.rw hk hv).mono ?_
    rw [HD.out]
    dsimp only
    rintro e w5 ⟨a4, b4, c4, d4, rfl, hr, hb5⟩
    have bm5 := hid (bm4.out.below hb5)
    have bx5 := hid (bx4.out.below hb5)
    have bel5 := hid (bel4.out.to hb5)
    clear bm4 bx4 bel4 hb5
    have rY5 := hid hr
    clear hr
    obtain ⟨cm0, cm1, cm2, cm3, cm4⟩ := bm5.out.cl
    have cml := bm5.out.lt
    obtain ⟨cx0, cx1, cx2, cx3, cx4⟩ := bx5.out.cl
    have cxl := bx5.out.lt
    go_wp2_with fail
    clear cm0 cm1 cm2 cm3 cm4 cml cx0 cx1 cx2 cx3 cx4 cxl
    have by6 := hid (TB.new rY5.out k s r)
    have bm6 := hid (bm5.out.alloc (.cells #[.int .i64 k, .int .i64 s, .int .i64 r, .slice a4 ks.length c4, .slice b4 vs.length d4] 28))
    have bx6 := hid (bx5.out.alloc (.cells #[.int .i64 k, .int .i64 s, .int .i64 r, .slice a4 ks.length c4, .slice b4 vs.length d4] 28))
    have bel6 := hid (bel5.out.alloc bel5.out.size (.cells #[.int .i64 k, .int .i64 s, .int .i64 r, .slice a4 ks.length c4, .slice b4 vs.length d4] 28))
    have ley := bel5.out.size
    clear bm5 bx5 rY5 bel5
    generalize w5.alloc (.cells #[.int .i64 k, .int .i64 s, .int .i64 r, .slice a4 ks.length c4, .slice b4 vs.length d4] 28) = w6 at *
    generalize w5.heap.size = y at *
    obtain ⟨cm0, cm1, cm2, cm3, cm4⟩ := bm6.out.cl
    have cml := bm6.out.lt
    obtain ⟨cx0, cx1, cx2, cx3, cx4⟩ := bx6.out.cl
    have cxl := bx6.out.lt
    obtain ⟨cy0, cy1, cy2, cy3, cy4⟩ := by6.out.cl
    have cyl := by6.out.lt
    go_wp2_with fail
    clear cm0 cm1 cm2 cm3 cm4 cml cx0 cx1 cx2 cx3 cx4 cxl cy0 cy1 cy2 cy3 cy4 cyl
    refine (sg_o k s r ks vs a3 b3 a4 b4 c3 d3 c4 d4 _ bx6.out.rw by6.out.rw hk hv).mono ?_
    rintro e w7 ⟨rfl, hb7⟩
    have bm7 := hid (bm6.out.below hb7)
    have bx7 := hid (bx6.out.below hb7)
    have by7 := hid (by6.out.below hb7)
    have bel7 := hid (bel6.out.to hb7)
    clear bm6 bx6 by6 bel6 hb7
    obtain ⟨cm0, cm1, cm2, cm3, cm4⟩ := bm7.out.cl
    have cml := bm7.out.lt
    obtain ⟨cx0, cx1, cx2, cx3, cx4⟩ := bx7.out.cl
    have cxl := bx7.out.lt
    obtain ⟨cy0, cy1, cy2, cy3, cy4⟩ := by7.out.cl
    have cyl := by7.out.lt
    go_wp2_with fail
    clear cm0 cm1 cm2 cm3 cm4 cml cx0 cx1 cx2 cx3 cx4 cxl cy0 cy1 cy2 cy3 cy4 cyl
    refine (ok_o k s r ks vs a1 b1 c1 d1 _ bm7.out.rw hk hv).mono ?_
    rw [HOK.out]
    rintro e w8 ⟨rfl, hb8⟩
    have bm8 := hid (bm7.out.below hb8)
    have bx8 := hid (bx7.out.below hb8)
    have by8 := hid (by7.out.below hb8)
    have bel8 := hid (bel7.out.to hb8)
    clear bm7 bx7 by7 bel7 hb8
    obtain ⟨cm0, cm1, cm2, cm3, cm4⟩ := bm8.out.cl
    have cml := bm8.out.lt
    obtain ⟨cx0, cx1, cx2, cx3, cx4⟩ := bx8.out.cl
    have cxl := bx8.out.lt
    obtain ⟨cy0, cy1, cy2, cy3, cy4⟩ := by8.out.cl
    have cyl := by8.out.lt
    go_wp2_with fail
    clear cm0 cm1 cm2 cm3 cm4 cml cx0 cx1 cx2 cx3 cx4 cxl cy0 cy1 cy2 cy3 cy4 cyl
    refine (look_o k s r ks vs a1 b1 c1 d1 key _ bm8.out.rw hk hv).mono ?_
    rw [HL.out]
    dsimp only
    rintro e w9 ⟨rfl, hb9⟩
    have bm9 := hid (bm8.out.below hb9)
    have bx9 := hid (bx8.out.below hb9)
    have by9 := hid (by8.out.below hb9)
    have bel9 := hid (bel8.out.to hb9)
    clear bm8 bx8 by8 bel8 hb9
    obtain ⟨cm0, cm1, cm2, cm3, cm4⟩ := bm9.out.cl
    have cml := bm9.out.lt
    obtain ⟨cx0, cx1, cx2, cx3, cx4⟩ := bx9.out.cl
    have cxl := bx9.out.lt
    obtain ⟨cy0, cy1, cy2, cy3, cy4⟩ := by9.out.cl
    have cyl := by9.out.lt
    go_wp2_with fail
    clear cm0 cm1 cm2 cm3 cm4 cml cx0 cx1 cx2 cx3 cx4 cxl cy0 cy1 cy2 cy3 cy4 cyl
    refine (sg_o k s r ks vs a3 b3 a1 b1 c3 d3 c1 d1 _ bx9.out.rw bm9.out.rw hk hv).mono ?_
    rintro e w10 ⟨rfl, hb10⟩
    have bm10 := hid (bm9.out.below hb10)
    have bx10 := hid (bx9.out.below hb10)
    have by10 := hid (by9.out.below hb10)
    have bel10 := hid (bel9.out.to hb10)
    clear bm9 bx9 by9 bel9 hb10
    go_wp2_with fail
    go_ret
    exact ⟨rfl, bel10.out⟩
end Go.Proofs.Ytahbicegmioplaa
