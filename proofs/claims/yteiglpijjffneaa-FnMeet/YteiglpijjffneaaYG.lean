/- The law FnMeet, drawn. -/
import Derived.Test.YteiglpijjffneaaYD
namespace Go.Proofs.Yteiglpijjffneaa
open Go.RowKit
set_option linter.unusedVariables false
set_option linter.unusedSimpArgs false

set_option maxRecDepth 100000 in
set_option maxHeartbeats 4000000 in
theorem law_fnMeet (w : World) (a : Option Addr) (len cap : Nat) (hc : len ≤ cap) (hs : Src w a len) (hl : cap < 2 ^ 63) (a1 : Option Addr) (len1 cap1 : Nat) (hc1 : len1 ≤ cap1) (hs1 : Src w a1 len1) (hl1 : cap1 < 2 ^ 63) :
    Calls Try.prog 9 #[.slice a len cap, .slice a1 len1 cap1] w fun e w' => e = .returned (.bool true) ∧ Below w.heap.size w w' := by
  have HS := hid hs
  have HS1 := hid hs1
  clear hs hs1
  by_cases hbig : (len : Int) > 1048576
  · go_enter Try.func9, Try.ntmps9
    go_wp2_with fail
    go_ret
    exact ⟨rfl, Below.refl _ _⟩
  by_cases hbig1 : (len1 : Int) > 1048576
  · go_enter Try.func9, Try.ntmps9
    go_wp2_with fail
    go_ret
    exact ⟨rfl, Below.refl _ _⟩
  go_enter Try.func9, Try.ntmps9
  go_wp2_with fail
  refine (drawRangeMeet_s w a len cap hc HS.out hl).mono ?_
  rintro e w1 ⟨⟨lo, hi, b, o, lo', hi', b', o', rfl, les, les'⟩, hb1⟩
  have bel1 := hid hb1
  clear hb1
  go_wp2_with fail
  have bX2 := hid ((RBox.new w1 (lo) (hi) (b) (o)).alloc (cellsR4 (lo') (hi') (b') (o')))
  have bY2 : Hid (RBox ((w1.alloc (cellsR4 (lo) (hi) (b) (o))).alloc (cellsR4 (lo') (hi') (b') (o'))) (w1.heap.size + 1) (lo') (hi') (b') (o')) := by
    have h0 := RBox.new (w1.alloc (cellsR4 (lo) (hi) (b) (o))) (lo') (hi') (b') (o')
    simp only [World.size_alloc] at h0
    exact h0
  have bel2 := hid (bel1.out.to (newB w1 (cellsR4 (lo) (hi) (b) (o)) (cellsR4 (lo') (hi') (b') (o'))))
  have leX := bel1.out.size
  clear bel1
  generalize (w1.alloc (cellsR4 (lo) (hi) (b) (o))).alloc (cellsR4 (lo') (hi') (b') (o')) = w2 at *
  generalize w1.heap.size = X at *
  clear les les'
  have LC : Hid (∃ q : Int, AnsI 20 #[rv lo hi b o] q) := by
    rcases least_cases lo hi b o with ⟨L', H', B', O', m, hL⟩ | hE
    · exact ⟨_, hL.imp⟩
    · exact ⟨_, hE.imp⟩
  obtain ⟨lq, al⟩ := LC.out
  have AL := hid al
  clear al LC
  rcases meet_cases lo hi b o lo' hi' b' o' with ⟨x, y, z, u, hM⟩ | hM
  · skip
    have A1 := hid hM.imp
    have A2 := hid hM.spc
    have A3 := hid hM.imp'
    have HH := hid hM.has
    clear hM
    obtain ⟨cX0, cX1, cX2, cX3⟩ := RBox.box bX2.out
    obtain ⟨cY0, cY1, cY2, cY3⟩ := RBox.box bY2.out
    go_wp2_with fail
    refine (A1.out _).mono ?_
    rintro e w3 ⟨rfl, hb3⟩
    have bX3 := hid (bX2.out.below hb3)
    have bY3 := hid (bY2.out.below hb3)
    have bel3 := hid (bel2.out.to hb3)
    clear hb3 bX2 bY2 bel2
    have bX4 := hid (bX3.out.alloc (cellsR4 (x) (y) (z) (u)))
    have neZX := RBox.lt bX3.out
    have bY4 := hid (bY3.out.alloc (cellsR4 (x) (y) (z) (u)))
    have neZY := RBox.lt bY3.out
    have bZ4 := hid (RBox.new w3 (x) (y) (z) (u))
    have bel4 := hid (bel3.out.alloc bel3.out.size (cellsR4 (x) (y) (z) (u)))
    have leZ := bel3.out.size
    clear bX3 bY3 bel3
    obtain ⟨cX0, cX1, cX2, cX3⟩ := RBox.box bX4.out
    obtain ⟨cY0, cY1, cY2, cY3⟩ := RBox.box bY4.out
    go_wp2_with fail
    clear cX0 cX1 cX2 cX3 cY0 cY1 cY2 cY3
    generalize w3.alloc (cellsR4 (x) (y) (z) (u)) = w4 at *
    generalize w3.heap.size = Z at *
    refine (A2.out _).mono ?_
    rintro e w5 ⟨rfl, hb5⟩
    have bX5 := hid (bX4.out.below hb5)
    have bY5 := hid (bY4.out.below hb5)
    have bZ5 := hid (bZ4.out.below hb5)
    have bel5 := hid (bel4.out.to hb5)
    clear hb5 bX4 bY4 bZ4 bel4
    have bX6 := hid (bX5.out.alloc (cellsR4 (x) (y) (z) (u)))
    have neTX := RBox.lt bX5.out
    have bY6 := hid (bY5.out.alloc (cellsR4 (x) (y) (z) (u)))
    have neTY := RBox.lt bY5.out
    have bZ6 := hid (bZ5.out.alloc (cellsR4 (x) (y) (z) (u)))
    have neTZ := RBox.lt bZ5.out
    have bT6 := hid (RBox.new w5 (x) (y) (z) (u))
    have bel6 := hid (bel5.out.alloc bel5.out.size (cellsR4 (x) (y) (z) (u)))
    have leT := bel5.out.size
    clear bX5 bY5 bZ5 bel5
    obtain ⟨cX0, cX1, cX2, cX3⟩ := RBox.box bX6.out
    obtain ⟨cY0, cY1, cY2, cY3⟩ := RBox.box bY6.out
    obtain ⟨cZ0, cZ1, cZ2, cZ3⟩ := RBox.box bZ6.out
    obtain ⟨cT0, cT1, cT2, cT3⟩ := RBox.box bT6.out
    go_wp2_with fail
    clear cX0 cX1 cX2 cX3 cY0 cY1 cY2 cY3 cZ0 cZ1 cZ2 cZ3 cT0 cT1 cT2 cT3
    generalize w5.alloc (cellsR4 (x) (y) (z) (u)) = w6 at *
    generalize w5.heap.size = T at *
    refine (A3.out _).mono ?_
    rintro e w7 ⟨rfl, hb7⟩
    have bX7 := hid (bX6.out.below hb7)
    have bY7 := hid (bY6.out.below hb7)
    have bZ7 := hid (bZ6.out.below hb7)
    have bT7 := hid (bT6.out.below hb7)
    have bel7 := hid (bel6.out.to hb7)
    clear hb7 bX6 bY6 bZ6 bT6 bel6
    have bX8 := hid (bX7.out.alloc (cellsR4 (x) (y) (z) (u)))
    have neUX := RBox.lt bX7.out
    have bY8 := hid (bY7.out.alloc (cellsR4 (x) (y) (z) (u)))
    have neUY := RBox.lt bY7.out
    have bZ8 := hid (bZ7.out.alloc (cellsR4 (x) (y) (z) (u)))
    have neUZ := RBox.lt bZ7.out
    have bT8 := hid (bT7.out.alloc (cellsR4 (x) (y) (z) (u)))
    have neUT := RBox.lt bT7.out
    have bU8 := hid (RBox.new w7 (x) (y) (z) (u))
    have bel8 := hid (bel7.out.alloc bel7.out.size (cellsR4 (x) (y) (z) (u)))
    have leU := bel7.out.size
    clear bX7 bY7 bZ7 bT7 bel7
    go_wp2_with fail
    generalize w7.alloc (cellsR4 (x) (y) (z) (u)) = w8 at *
    generalize w7.heap.size = U at *
    refine (drawRangeHas_s _ a1 len1 cap1 hc1 (HS1.out.below bel8.out) hl1).mono ?_
    rintro e w9 ⟨⟨lo2, hi2, b2, o2, n, rfl, les2, hn2⟩, hb9⟩
    have bX9 := hid (bX8.out.below hb9)
    have bY9 := hid (bY8.out.below hb9)
    have bZ9 := hid (bZ8.out.below hb9)
    have bT9 := hid (bT8.out.below hb9)
    have bU9 := hid (bU8.out.below hb9)
    have bel9 := hid (bel8.out.to hb9)
    clear hb9 bX8 bY8 bZ8 bT8 bU8 bel8
    clear les2 hn2 HS HS1
    have bX10 := hid (bX9.out.alloc (cellsR4 (lo2) (hi2) (b2) (o2)))
    have neSX := RBox.lt bX9.out
    have bY10 := hid (bY9.out.alloc (cellsR4 (lo2) (hi2) (b2) (o2)))
    have neSY := RBox.lt bY9.out
    have bZ10 := hid (bZ9.out.alloc (cellsR4 (lo2) (hi2) (b2) (o2)))
    have neSZ := RBox.lt bZ9.out
    have bT10 := hid (bT9.out.alloc (cellsR4 (lo2) (hi2) (b2) (o2)))
    have neST := RBox.lt bT9.out
    have bU10 := hid (bU9.out.alloc (cellsR4 (lo2) (hi2) (b2) (o2)))
    have neSU := RBox.lt bU9.out
    have bS10 := hid (RBox.new w9 (lo2) (hi2) (b2) (o2))
    have bel10 := hid (bel9.out.alloc bel9.out.size (cellsR4 (lo2) (hi2) (b2) (o2)))
    have leS := bel9.out.size
    clear bX9 bY9 bZ9 bT9 bU9 bel9
    obtain ⟨cX0, cX1, cX2, cX3⟩ := RBox.box bX10.out
    obtain ⟨cY0, cY1, cY2, cY3⟩ := RBox.box bY10.out
    go_wp2_with fail
    clear cX0 cX1 cX2 cX3 cY0 cY1 cY2 cY3
    generalize w9.alloc (cellsR4 (lo2) (hi2) (b2) (o2)) = w10 at *
    generalize w9.heap.size = S at *
    cases e1 : hasI lo hi b o n
    · skip
      refine (ans_has lo hi b o n e1 _).mono ?_
      rintro e w11 ⟨rfl, hb11⟩
      have bX11 := hid (bX10.out.below hb11)
      have bY11 := hid (bY10.out.below hb11)
      have bZ11 := hid (bZ10.out.below hb11)
      have bT11 := hid (bT10.out.below hb11)
      have bU11 := hid (bU10.out.below hb11)
      have bS11 := hid (bS10.out.below hb11)
      have bel11 := hid (bel10.out.to hb11)
      clear hb11 bX10 bY10 bZ10 bT10 bU10 bS10 bel10
      obtain ⟨cX0, cX1, cX2, cX3⟩ := RBox.box bX11.out
      obtain ⟨cY0, cY1, cY2, cY3⟩ := RBox.box bY11.out
      go_wp2_with fail
      refine (AL.out _).mono ?_
      rintro e w12 ⟨rfl, hb12⟩
      have bX12 := hid (bX11.out.below hb12)
      have bY12 := hid (bY11.out.below hb12)
      have bZ12 := hid (bZ11.out.below hb12)
      have bT12 := hid (bT11.out.below hb12)
      have bU12 := hid (bU11.out.below hb12)
      have bS12 := hid (bS11.out.below hb12)
      have bel12 := hid (bel11.out.to hb12)
      clear hb12 bX11 bY11 bZ11 bT11 bU11 bS11 bel11
      obtain ⟨cX0, cX1, cX2, cX3⟩ := RBox.box bX12.out
      obtain ⟨cY0, cY1, cY2, cY3⟩ := RBox.box bY12.out
      go_wp2_with fail
      cases e2 : hasI lo hi b o lq
      · skip
        refine (ans_has lo hi b o lq e2 _).mono ?_
        rintro e w13 ⟨rfl, hb13⟩
        have bX13 := hid (bX12.out.below hb13)
        have bY13 := hid (bY12.out.below hb13)
        have bZ13 := hid (bZ12.out.below hb13)
        have bT13 := hid (bT12.out.below hb13)
        have bU13 := hid (bU12.out.below hb13)
        have bS13 := hid (bS12.out.below hb13)
        have bel13 := hid (bel12.out.to hb13)
        clear hb13 bX12 bY12 bZ12 bT12 bU12 bS12 bel12
        obtain ⟨cZ0, cZ1, cZ2, cZ3⟩ := RBox.box bZ13.out
        obtain ⟨cU0, cU1, cU2, cU3⟩ := RBox.box bU13.out
        go_wp2_with fail
        refine (ans_has x y z u n ((HH.out n).trans (by rw [e1, Bool.false_and])) _).mono ?_
        rintro e w14 ⟨rfl, hb14⟩
        have bX14 := hid (bX13.out.below hb14)
        have bY14 := hid (bY13.out.below hb14)
        have bZ14 := hid (bZ13.out.below hb14)
        have bT14 := hid (bT13.out.below hb14)
        have bU14 := hid (bU13.out.below hb14)
        have bS14 := hid (bS13.out.below hb14)
        have bel14 := hid (bel13.out.to hb14)
        clear hb14 bX13 bY13 bZ13 bT13 bU13 bS13 bel13
        obtain ⟨cZ0, cZ1, cZ2, cZ3⟩ := RBox.box bZ14.out
        obtain ⟨cU0, cU1, cU2, cU3⟩ := RBox.box bU14.out
        go_wp2_with fail
        refine (ans_has x y z u lq ((HH.out lq).trans (by rw [e2, Bool.false_and])) _).mono ?_
        rintro e w15 ⟨rfl, hb15⟩
        have bX15 := hid (bX14.out.below hb15)
        have bY15 := hid (bY14.out.below hb15)
        have bZ15 := hid (bZ14.out.below hb15)
        have bT15 := hid (bT14.out.below hb15)
        have bU15 := hid (bU14.out.below hb15)
        have bS15 := hid (bS14.out.below hb15)
        have bel15 := hid (bel14.out.to hb15)
        clear hb15 bX14 bY14 bZ14 bT14 bU14 bS14 bel14
        go_wp2_with fail
        go_ret
        exact ⟨rfl, bel15.out⟩
      · cases f2 : hasI lo' hi' b' o' lq
        · skip
          refine (ans_has lo hi b o lq e2 _).mono ?_
          rintro e w13 ⟨rfl, hb13⟩
          have bX13 := hid (bX12.out.below hb13)
          have bY13 := hid (bY12.out.below hb13)
          have bZ13 := hid (bZ12.out.below hb13)
          have bT13 := hid (bT12.out.below hb13)
          have bU13 := hid (bU12.out.below hb13)
          have bS13 := hid (bS12.out.below hb13)
          have bel13 := hid (bel12.out.to hb13)
          clear hb13 bX12 bY12 bZ12 bT12 bU12 bS12 bel12
          obtain ⟨cX0, cX1, cX2, cX3⟩ := RBox.box bX13.out
          obtain ⟨cY0, cY1, cY2, cY3⟩ := RBox.box bY13.out
          go_wp2_with fail
          refine (ans_has lo' hi' b' o' lq f2 _).mono ?_
          rintro e w14 ⟨rfl, hb14⟩
          have bX14 := hid (bX13.out.below hb14)
          have bY14 := hid (bY13.out.below hb14)
          have bZ14 := hid (bZ13.out.below hb14)
          have bT14 := hid (bT13.out.below hb14)
          have bU14 := hid (bU13.out.below hb14)
          have bS14 := hid (bS13.out.below hb14)
          have bel14 := hid (bel13.out.to hb14)
          clear hb14 bX13 bY13 bZ13 bT13 bU13 bS13 bel13
          obtain ⟨cZ0, cZ1, cZ2, cZ3⟩ := RBox.box bZ14.out
          obtain ⟨cU0, cU1, cU2, cU3⟩ := RBox.box bU14.out
          go_wp2_with fail
          refine (ans_has x y z u n ((HH.out n).trans (by rw [e1, Bool.false_and])) _).mono ?_
          rintro e w15 ⟨rfl, hb15⟩
          have bX15 := hid (bX14.out.below hb15)
          have bY15 := hid (bY14.out.below hb15)
          have bZ15 := hid (bZ14.out.below hb15)
          have bT15 := hid (bT14.out.below hb15)
          have bU15 := hid (bU14.out.below hb15)
          have bS15 := hid (bS14.out.below hb15)
          have bel15 := hid (bel14.out.to hb15)
          clear hb15 bX14 bY14 bZ14 bT14 bU14 bS14 bel14
          obtain ⟨cZ0, cZ1, cZ2, cZ3⟩ := RBox.box bZ15.out
          obtain ⟨cU0, cU1, cU2, cU3⟩ := RBox.box bU15.out
          go_wp2_with fail
          refine (ans_has x y z u lq ((HH.out lq).trans (by rw [e2, f2, Bool.and_false])) _).mono ?_
          rintro e w16 ⟨rfl, hb16⟩
          have bX16 := hid (bX15.out.below hb16)
          have bY16 := hid (bY15.out.below hb16)
          have bZ16 := hid (bZ15.out.below hb16)
          have bT16 := hid (bT15.out.below hb16)
          have bU16 := hid (bU15.out.below hb16)
          have bS16 := hid (bS15.out.below hb16)
          have bel16 := hid (bel15.out.to hb16)
          clear hb16 bX15 bY15 bZ15 bT15 bU15 bS15 bel15
          go_wp2_with fail
          go_ret
          exact ⟨rfl, bel16.out⟩
        · skip
          refine (ans_has lo hi b o lq e2 _).mono ?_
          rintro e w13 ⟨rfl, hb13⟩
          have bX13 := hid (bX12.out.below hb13)
          have bY13 := hid (bY12.out.below hb13)
          have bZ13 := hid (bZ12.out.below hb13)
          have bT13 := hid (bT12.out.below hb13)
          have bU13 := hid (bU12.out.below hb13)
          have bS13 := hid (bS12.out.below hb13)
          have bel13 := hid (bel12.out.to hb13)
          clear hb13 bX12 bY12 bZ12 bT12 bU12 bS12 bel12
          obtain ⟨cX0, cX1, cX2, cX3⟩ := RBox.box bX13.out
          obtain ⟨cY0, cY1, cY2, cY3⟩ := RBox.box bY13.out
          go_wp2_with fail
          refine (ans_has lo' hi' b' o' lq f2 _).mono ?_
          rintro e w14 ⟨rfl, hb14⟩
          have bX14 := hid (bX13.out.below hb14)
          have bY14 := hid (bY13.out.below hb14)
          have bZ14 := hid (bZ13.out.below hb14)
          have bT14 := hid (bT13.out.below hb14)
          have bU14 := hid (bU13.out.below hb14)
          have bS14 := hid (bS13.out.below hb14)
          have bel14 := hid (bel13.out.to hb14)
          clear hb14 bX13 bY13 bZ13 bT13 bU13 bS13 bel13
          obtain ⟨cZ0, cZ1, cZ2, cZ3⟩ := RBox.box bZ14.out
          obtain ⟨cU0, cU1, cU2, cU3⟩ := RBox.box bU14.out
          go_wp2_with fail
          refine (ans_has x y z u n ((HH.out n).trans (by rw [e1, Bool.false_and])) _).mono ?_
          rintro e w15 ⟨rfl, hb15⟩
          have bX15 := hid (bX14.out.below hb15)
          have bY15 := hid (bY14.out.below hb15)
          have bZ15 := hid (bZ14.out.below hb15)
          have bT15 := hid (bT14.out.below hb15)
          have bU15 := hid (bU14.out.below hb15)
          have bS15 := hid (bS14.out.below hb15)
          have bel15 := hid (bel14.out.to hb15)
          clear hb15 bX14 bY14 bZ14 bT14 bU14 bS14 bel14
          obtain ⟨cZ0, cZ1, cZ2, cZ3⟩ := RBox.box bZ15.out
          obtain ⟨cU0, cU1, cU2, cU3⟩ := RBox.box bU15.out
          go_wp2_with fail
          refine (ans_has x y z u lq ((HH.out lq).trans (by rw [e2, f2, Bool.and_self])) _).mono ?_
          rintro e w16 ⟨rfl, hb16⟩
          have bX16 := hid (bX15.out.below hb16)
          have bY16 := hid (bY15.out.below hb16)
          have bZ16 := hid (bZ15.out.below hb16)
          have bT16 := hid (bT15.out.below hb16)
          have bU16 := hid (bU15.out.below hb16)
          have bS16 := hid (bS15.out.below hb16)
          have bel16 := hid (bel15.out.to hb16)
          clear hb16 bX15 bY15 bZ15 bT15 bU15 bS15 bel15
          go_wp2_with fail
          go_ret
          exact ⟨rfl, bel16.out⟩
    · cases f1 : hasI lo' hi' b' o' n
      · skip
        refine (ans_has lo hi b o n e1 _).mono ?_
        rintro e w11 ⟨rfl, hb11⟩
        have bX11 := hid (bX10.out.below hb11)
        have bY11 := hid (bY10.out.below hb11)
        have bZ11 := hid (bZ10.out.below hb11)
        have bT11 := hid (bT10.out.below hb11)
        have bU11 := hid (bU10.out.below hb11)
        have bS11 := hid (bS10.out.below hb11)
        have bel11 := hid (bel10.out.to hb11)
        clear hb11 bX10 bY10 bZ10 bT10 bU10 bS10 bel10
        obtain ⟨cX0, cX1, cX2, cX3⟩ := RBox.box bX11.out
        obtain ⟨cY0, cY1, cY2, cY3⟩ := RBox.box bY11.out
        go_wp2_with fail
        refine (ans_has lo' hi' b' o' n f1 _).mono ?_
        rintro e w12 ⟨rfl, hb12⟩
        have bX12 := hid (bX11.out.below hb12)
        have bY12 := hid (bY11.out.below hb12)
        have bZ12 := hid (bZ11.out.below hb12)
        have bT12 := hid (bT11.out.below hb12)
        have bU12 := hid (bU11.out.below hb12)
        have bS12 := hid (bS11.out.below hb12)
        have bel12 := hid (bel11.out.to hb12)
        clear hb12 bX11 bY11 bZ11 bT11 bU11 bS11 bel11
        obtain ⟨cX0, cX1, cX2, cX3⟩ := RBox.box bX12.out
        obtain ⟨cY0, cY1, cY2, cY3⟩ := RBox.box bY12.out
        go_wp2_with fail
        refine (AL.out _).mono ?_
        rintro e w13 ⟨rfl, hb13⟩
        have bX13 := hid (bX12.out.below hb13)
        have bY13 := hid (bY12.out.below hb13)
        have bZ13 := hid (bZ12.out.below hb13)
        have bT13 := hid (bT12.out.below hb13)
        have bU13 := hid (bU12.out.below hb13)
        have bS13 := hid (bS12.out.below hb13)
        have bel13 := hid (bel12.out.to hb13)
        clear hb13 bX12 bY12 bZ12 bT12 bU12 bS12 bel12
        obtain ⟨cX0, cX1, cX2, cX3⟩ := RBox.box bX13.out
        obtain ⟨cY0, cY1, cY2, cY3⟩ := RBox.box bY13.out
        go_wp2_with fail
        cases e2 : hasI lo hi b o lq
        · skip
          refine (ans_has lo hi b o lq e2 _).mono ?_
          rintro e w14 ⟨rfl, hb14⟩
          have bX14 := hid (bX13.out.below hb14)
          have bY14 := hid (bY13.out.below hb14)
          have bZ14 := hid (bZ13.out.below hb14)
          have bT14 := hid (bT13.out.below hb14)
          have bU14 := hid (bU13.out.below hb14)
          have bS14 := hid (bS13.out.below hb14)
          have bel14 := hid (bel13.out.to hb14)
          clear hb14 bX13 bY13 bZ13 bT13 bU13 bS13 bel13
          obtain ⟨cZ0, cZ1, cZ2, cZ3⟩ := RBox.box bZ14.out
          obtain ⟨cU0, cU1, cU2, cU3⟩ := RBox.box bU14.out
          go_wp2_with fail
          refine (ans_has x y z u n ((HH.out n).trans (by rw [e1, f1, Bool.and_false])) _).mono ?_
          rintro e w15 ⟨rfl, hb15⟩
          have bX15 := hid (bX14.out.below hb15)
          have bY15 := hid (bY14.out.below hb15)
          have bZ15 := hid (bZ14.out.below hb15)
          have bT15 := hid (bT14.out.below hb15)
          have bU15 := hid (bU14.out.below hb15)
          have bS15 := hid (bS14.out.below hb15)
          have bel15 := hid (bel14.out.to hb15)
          clear hb15 bX14 bY14 bZ14 bT14 bU14 bS14 bel14
          obtain ⟨cZ0, cZ1, cZ2, cZ3⟩ := RBox.box bZ15.out
          obtain ⟨cU0, cU1, cU2, cU3⟩ := RBox.box bU15.out
          go_wp2_with fail
          refine (ans_has x y z u lq ((HH.out lq).trans (by rw [e2, Bool.false_and])) _).mono ?_
          rintro e w16 ⟨rfl, hb16⟩
          have bX16 := hid (bX15.out.below hb16)
          have bY16 := hid (bY15.out.below hb16)
          have bZ16 := hid (bZ15.out.below hb16)
          have bT16 := hid (bT15.out.below hb16)
          have bU16 := hid (bU15.out.below hb16)
          have bS16 := hid (bS15.out.below hb16)
          have bel16 := hid (bel15.out.to hb16)
          clear hb16 bX15 bY15 bZ15 bT15 bU15 bS15 bel15
          go_wp2_with fail
          go_ret
          exact ⟨rfl, bel16.out⟩
        · cases f2 : hasI lo' hi' b' o' lq
          · skip
            refine (ans_has lo hi b o lq e2 _).mono ?_
            rintro e w14 ⟨rfl, hb14⟩
            have bX14 := hid (bX13.out.below hb14)
            have bY14 := hid (bY13.out.below hb14)
            have bZ14 := hid (bZ13.out.below hb14)
            have bT14 := hid (bT13.out.below hb14)
            have bU14 := hid (bU13.out.below hb14)
            have bS14 := hid (bS13.out.below hb14)
            have bel14 := hid (bel13.out.to hb14)
            clear hb14 bX13 bY13 bZ13 bT13 bU13 bS13 bel13
            obtain ⟨cX0, cX1, cX2, cX3⟩ := RBox.box bX14.out
            obtain ⟨cY0, cY1, cY2, cY3⟩ := RBox.box bY14.out
            go_wp2_with fail
            refine (ans_has lo' hi' b' o' lq f2 _).mono ?_
            rintro e w15 ⟨rfl, hb15⟩
            have bX15 := hid (bX14.out.below hb15)
            have bY15 := hid (bY14.out.below hb15)
            have bZ15 := hid (bZ14.out.below hb15)
            have bT15 := hid (bT14.out.below hb15)
            have bU15 := hid (bU14.out.below hb15)
            have bS15 := hid (bS14.out.below hb15)
            have bel15 := hid (bel14.out.to hb15)
            clear hb15 bX14 bY14 bZ14 bT14 bU14 bS14 bel14
            obtain ⟨cZ0, cZ1, cZ2, cZ3⟩ := RBox.box bZ15.out
            obtain ⟨cU0, cU1, cU2, cU3⟩ := RBox.box bU15.out
            go_wp2_with fail
            refine (ans_has x y z u n ((HH.out n).trans (by rw [e1, f1, Bool.and_false])) _).mono ?_
            rintro e w16 ⟨rfl, hb16⟩
            have bX16 := hid (bX15.out.below hb16)
            have bY16 := hid (bY15.out.below hb16)
            have bZ16 := hid (bZ15.out.below hb16)
            have bT16 := hid (bT15.out.below hb16)
            have bU16 := hid (bU15.out.below hb16)
            have bS16 := hid (bS15.out.below hb16)
            have bel16 := hid (bel15.out.to hb16)
            clear hb16 bX15 bY15 bZ15 bT15 bU15 bS15 bel15
            obtain ⟨cZ0, cZ1, cZ2, cZ3⟩ := RBox.box bZ16.out
            obtain ⟨cU0, cU1, cU2, cU3⟩ := RBox.box bU16.out
            go_wp2_with fail
            refine (ans_has x y z u lq ((HH.out lq).trans (by rw [e2, f2, Bool.and_false])) _).mono ?_
            rintro e w17 ⟨rfl, hb17⟩
            have bX17 := hid (bX16.out.below hb17)
            have bY17 := hid (bY16.out.below hb17)
            have bZ17 := hid (bZ16.out.below hb17)
            have bT17 := hid (bT16.out.below hb17)
            have bU17 := hid (bU16.out.below hb17)
            have bS17 := hid (bS16.out.below hb17)
            have bel17 := hid (bel16.out.to hb17)
            clear hb17 bX16 bY16 bZ16 bT16 bU16 bS16 bel16
            go_wp2_with fail
            go_ret
            exact ⟨rfl, bel17.out⟩
          · skip
            refine (ans_has lo hi b o lq e2 _).mono ?_
            rintro e w14 ⟨rfl, hb14⟩
            have bX14 := hid (bX13.out.below hb14)
            have bY14 := hid (bY13.out.below hb14)
            have bZ14 := hid (bZ13.out.below hb14)
            have bT14 := hid (bT13.out.below hb14)
            have bU14 := hid (bU13.out.below hb14)
            have bS14 := hid (bS13.out.below hb14)
            have bel14 := hid (bel13.out.to hb14)
            clear hb14 bX13 bY13 bZ13 bT13 bU13 bS13 bel13
            obtain ⟨cX0, cX1, cX2, cX3⟩ := RBox.box bX14.out
            obtain ⟨cY0, cY1, cY2, cY3⟩ := RBox.box bY14.out
            go_wp2_with fail
            refine (ans_has lo' hi' b' o' lq f2 _).mono ?_
            rintro e w15 ⟨rfl, hb15⟩
            have bX15 := hid (bX14.out.below hb15)
            have bY15 := hid (bY14.out.below hb15)
            have bZ15 := hid (bZ14.out.below hb15)
            have bT15 := hid (bT14.out.below hb15)
            have bU15 := hid (bU14.out.below hb15)
            have bS15 := hid (bS14.out.below hb15)
            have bel15 := hid (bel14.out.to hb15)
            clear hb15 bX14 bY14 bZ14 bT14 bU14 bS14 bel14
            obtain ⟨cZ0, cZ1, cZ2, cZ3⟩ := RBox.box bZ15.out
            obtain ⟨cU0, cU1, cU2, cU3⟩ := RBox.box bU15.out
            go_wp2_with fail
            refine (ans_has x y z u n ((HH.out n).trans (by rw [e1, f1, Bool.and_false])) _).mono ?_
            rintro e w16 ⟨rfl, hb16⟩
            have bX16 := hid (bX15.out.below hb16)
            have bY16 := hid (bY15.out.below hb16)
            have bZ16 := hid (bZ15.out.below hb16)
            have bT16 := hid (bT15.out.below hb16)
            have bU16 := hid (bU15.out.below hb16)
            have bS16 := hid (bS15.out.below hb16)
            have bel16 := hid (bel15.out.to hb16)
            clear hb16 bX15 bY15 bZ15 bT15 bU15 bS15 bel15
            obtain ⟨cZ0, cZ1, cZ2, cZ3⟩ := RBox.box bZ16.out
            obtain ⟨cU0, cU1, cU2, cU3⟩ := RBox.box bU16.out
            go_wp2_with fail
            refine (ans_has x y z u lq ((HH.out lq).trans (by rw [e2, f2, Bool.and_self])) _).mono ?_
            rintro e w17 ⟨rfl, hb17⟩
            have bX17 := hid (bX16.out.below hb17)
            have bY17 := hid (bY16.out.below hb17)
            have bZ17 := hid (bZ16.out.below hb17)
            have bT17 := hid (bT16.out.below hb17)
            have bU17 := hid (bU16.out.below hb17)
            have bS17 := hid (bS16.out.below hb17)
            have bel17 := hid (bel16.out.to hb17)
            clear hb17 bX16 bY16 bZ16 bT16 bU16 bS16 bel16
            go_wp2_with fail
            go_ret
            exact ⟨rfl, bel17.out⟩
      · skip
        refine (ans_has lo hi b o n e1 _).mono ?_
        rintro e w11 ⟨rfl, hb11⟩
        have bX11 := hid (bX10.out.below hb11)
        have bY11 := hid (bY10.out.below hb11)
        have bZ11 := hid (bZ10.out.below hb11)
        have bT11 := hid (bT10.out.below hb11)
        have bU11 := hid (bU10.out.below hb11)
        have bS11 := hid (bS10.out.below hb11)
        have bel11 := hid (bel10.out.to hb11)
        clear hb11 bX10 bY10 bZ10 bT10 bU10 bS10 bel10
        obtain ⟨cX0, cX1, cX2, cX3⟩ := RBox.box bX11.out
        obtain ⟨cY0, cY1, cY2, cY3⟩ := RBox.box bY11.out
        go_wp2_with fail
        refine (ans_has lo' hi' b' o' n f1 _).mono ?_
        rintro e w12 ⟨rfl, hb12⟩
        have bX12 := hid (bX11.out.below hb12)
        have bY12 := hid (bY11.out.below hb12)
        have bZ12 := hid (bZ11.out.below hb12)
        have bT12 := hid (bT11.out.below hb12)
        have bU12 := hid (bU11.out.below hb12)
        have bS12 := hid (bS11.out.below hb12)
        have bel12 := hid (bel11.out.to hb12)
        clear hb12 bX11 bY11 bZ11 bT11 bU11 bS11 bel11
        obtain ⟨cX0, cX1, cX2, cX3⟩ := RBox.box bX12.out
        obtain ⟨cY0, cY1, cY2, cY3⟩ := RBox.box bY12.out
        go_wp2_with fail
        refine (AL.out _).mono ?_
        rintro e w13 ⟨rfl, hb13⟩
        have bX13 := hid (bX12.out.below hb13)
        have bY13 := hid (bY12.out.below hb13)
        have bZ13 := hid (bZ12.out.below hb13)
        have bT13 := hid (bT12.out.below hb13)
        have bU13 := hid (bU12.out.below hb13)
        have bS13 := hid (bS12.out.below hb13)
        have bel13 := hid (bel12.out.to hb13)
        clear hb13 bX12 bY12 bZ12 bT12 bU12 bS12 bel12
        obtain ⟨cX0, cX1, cX2, cX3⟩ := RBox.box bX13.out
        obtain ⟨cY0, cY1, cY2, cY3⟩ := RBox.box bY13.out
        go_wp2_with fail
        cases e2 : hasI lo hi b o lq
        · skip
          refine (ans_has lo hi b o lq e2 _).mono ?_
          rintro e w14 ⟨rfl, hb14⟩
          have bX14 := hid (bX13.out.below hb14)
          have bY14 := hid (bY13.out.below hb14)
          have bZ14 := hid (bZ13.out.below hb14)
          have bT14 := hid (bT13.out.below hb14)
          have bU14 := hid (bU13.out.below hb14)
          have bS14 := hid (bS13.out.below hb14)
          have bel14 := hid (bel13.out.to hb14)
          clear hb14 bX13 bY13 bZ13 bT13 bU13 bS13 bel13
          obtain ⟨cZ0, cZ1, cZ2, cZ3⟩ := RBox.box bZ14.out
          obtain ⟨cU0, cU1, cU2, cU3⟩ := RBox.box bU14.out
          go_wp2_with fail
          refine (ans_has x y z u n ((HH.out n).trans (by rw [e1, f1, Bool.and_self])) _).mono ?_
          rintro e w15 ⟨rfl, hb15⟩
          have bX15 := hid (bX14.out.below hb15)
          have bY15 := hid (bY14.out.below hb15)
          have bZ15 := hid (bZ14.out.below hb15)
          have bT15 := hid (bT14.out.below hb15)
          have bU15 := hid (bU14.out.below hb15)
          have bS15 := hid (bS14.out.below hb15)
          have bel15 := hid (bel14.out.to hb15)
          clear hb15 bX14 bY14 bZ14 bT14 bU14 bS14 bel14
          obtain ⟨cZ0, cZ1, cZ2, cZ3⟩ := RBox.box bZ15.out
          obtain ⟨cU0, cU1, cU2, cU3⟩ := RBox.box bU15.out
          go_wp2_with fail
          refine (ans_has x y z u lq ((HH.out lq).trans (by rw [e2, Bool.false_and])) _).mono ?_
          rintro e w16 ⟨rfl, hb16⟩
          have bX16 := hid (bX15.out.below hb16)
          have bY16 := hid (bY15.out.below hb16)
          have bZ16 := hid (bZ15.out.below hb16)
          have bT16 := hid (bT15.out.below hb16)
          have bU16 := hid (bU15.out.below hb16)
          have bS16 := hid (bS15.out.below hb16)
          have bel16 := hid (bel15.out.to hb16)
          clear hb16 bX15 bY15 bZ15 bT15 bU15 bS15 bel15
          go_wp2_with fail
          go_ret
          exact ⟨rfl, bel16.out⟩
        · cases f2 : hasI lo' hi' b' o' lq
          · skip
            refine (ans_has lo hi b o lq e2 _).mono ?_
            rintro e w14 ⟨rfl, hb14⟩
            have bX14 := hid (bX13.out.below hb14)
            have bY14 := hid (bY13.out.below hb14)
            have bZ14 := hid (bZ13.out.below hb14)
            have bT14 := hid (bT13.out.below hb14)
            have bU14 := hid (bU13.out.below hb14)
            have bS14 := hid (bS13.out.below hb14)
            have bel14 := hid (bel13.out.to hb14)
            clear hb14 bX13 bY13 bZ13 bT13 bU13 bS13 bel13
            obtain ⟨cX0, cX1, cX2, cX3⟩ := RBox.box bX14.out
            obtain ⟨cY0, cY1, cY2, cY3⟩ := RBox.box bY14.out
            go_wp2_with fail
            refine (ans_has lo' hi' b' o' lq f2 _).mono ?_
            rintro e w15 ⟨rfl, hb15⟩
            have bX15 := hid (bX14.out.below hb15)
            have bY15 := hid (bY14.out.below hb15)
            have bZ15 := hid (bZ14.out.below hb15)
            have bT15 := hid (bT14.out.below hb15)
            have bU15 := hid (bU14.out.below hb15)
            have bS15 := hid (bS14.out.below hb15)
            have bel15 := hid (bel14.out.to hb15)
            clear hb15 bX14 bY14 bZ14 bT14 bU14 bS14 bel14
            obtain ⟨cZ0, cZ1, cZ2, cZ3⟩ := RBox.box bZ15.out
            obtain ⟨cU0, cU1, cU2, cU3⟩ := RBox.box bU15.out
            go_wp2_with fail
            refine (ans_has x y z u n ((HH.out n).trans (by rw [e1, f1, Bool.and_self])) _).mono ?_
            rintro e w16 ⟨rfl, hb16⟩
            have bX16 := hid (bX15.out.below hb16)
            have bY16 := hid (bY15.out.below hb16)
            have bZ16 := hid (bZ15.out.below hb16)
            have bT16 := hid (bT15.out.below hb16)
            have bU16 := hid (bU15.out.below hb16)
            have bS16 := hid (bS15.out.below hb16)
            have bel16 := hid (bel15.out.to hb16)
            clear hb16 bX15 bY15 bZ15 bT15 bU15 bS15 bel15
            obtain ⟨cZ0, cZ1, cZ2, cZ3⟩ := RBox.box bZ16.out
            obtain ⟨cU0, cU1, cU2, cU3⟩ := RBox.box bU16.out
            go_wp2_with fail
            refine (ans_has x y z u lq ((HH.out lq).trans (by rw [e2, f2, Bool.and_false])) _).mono ?_
            rintro e w17 ⟨rfl, hb17⟩
            have bX17 := hid (bX16.out.below hb17)
            have bY17 := hid (bY16.out.below hb17)
            have bZ17 := hid (bZ16.out.below hb17)
            have bT17 := hid (bT16.out.below hb17)
            have bU17 := hid (bU16.out.below hb17)
            have bS17 := hid (bS16.out.below hb17)
            have bel17 := hid (bel16.out.to hb17)
            clear hb17 bX16 bY16 bZ16 bT16 bU16 bS16 bel16
            go_wp2_with fail
            go_ret
            exact ⟨rfl, bel17.out⟩
          · skip
            refine (ans_has lo hi b o lq e2 _).mono ?_
            rintro e w14 ⟨rfl, hb14⟩
            have bX14 := hid (bX13.out.below hb14)
            have bY14 := hid (bY13.out.below hb14)
            have bZ14 := hid (bZ13.out.below hb14)
            have bT14 := hid (bT13.out.below hb14)
            have bU14 := hid (bU13.out.below hb14)
            have bS14 := hid (bS13.out.below hb14)
            have bel14 := hid (bel13.out.to hb14)
            clear hb14 bX13 bY13 bZ13 bT13 bU13 bS13 bel13
            obtain ⟨cX0, cX1, cX2, cX3⟩ := RBox.box bX14.out
            obtain ⟨cY0, cY1, cY2, cY3⟩ := RBox.box bY14.out
            go_wp2_with fail
            refine (ans_has lo' hi' b' o' lq f2 _).mono ?_
            rintro e w15 ⟨rfl, hb15⟩
            have bX15 := hid (bX14.out.below hb15)
            have bY15 := hid (bY14.out.below hb15)
            have bZ15 := hid (bZ14.out.below hb15)
            have bT15 := hid (bT14.out.below hb15)
            have bU15 := hid (bU14.out.below hb15)
            have bS15 := hid (bS14.out.below hb15)
            have bel15 := hid (bel14.out.to hb15)
            clear hb15 bX14 bY14 bZ14 bT14 bU14 bS14 bel14
            obtain ⟨cZ0, cZ1, cZ2, cZ3⟩ := RBox.box bZ15.out
            obtain ⟨cU0, cU1, cU2, cU3⟩ := RBox.box bU15.out
            go_wp2_with fail
            refine (ans_has x y z u n ((HH.out n).trans (by rw [e1, f1, Bool.and_self])) _).mono ?_
            rintro e w16 ⟨rfl, hb16⟩
            have bX16 := hid (bX15.out.below hb16)
            have bY16 := hid (bY15.out.below hb16)
            have bZ16 := hid (bZ15.out.below hb16)
            have bT16 := hid (bT15.out.below hb16)
            have bU16 := hid (bU15.out.below hb16)
            have bS16 := hid (bS15.out.below hb16)
            have bel16 := hid (bel15.out.to hb16)
            clear hb16 bX15 bY15 bZ15 bT15 bU15 bS15 bel15
            obtain ⟨cZ0, cZ1, cZ2, cZ3⟩ := RBox.box bZ16.out
            obtain ⟨cU0, cU1, cU2, cU3⟩ := RBox.box bU16.out
            go_wp2_with fail
            refine (ans_has x y z u lq ((HH.out lq).trans (by rw [e2, f2, Bool.and_self])) _).mono ?_
            rintro e w17 ⟨rfl, hb17⟩
            have bX17 := hid (bX16.out.below hb17)
            have bY17 := hid (bY16.out.below hb17)
            have bZ17 := hid (bZ16.out.below hb17)
            have bT17 := hid (bT16.out.below hb17)
            have bU17 := hid (bU16.out.below hb17)
            have bS17 := hid (bS16.out.below hb17)
            have bel17 := hid (bel16.out.to hb17)
            clear hb17 bX16 bY16 bZ16 bT16 bU16 bS16 bel16
            go_wp2_with fail
            go_ret
            exact ⟨rfl, bel17.out⟩
  · skip
    have A1 := hid hM.imp
    have A2 := hid hM.spc
    have A3 := hid hM.imp'
    have HH := hid hM.has
    clear hM
    obtain ⟨cX0, cX1, cX2, cX3⟩ := RBox.box bX2.out
    obtain ⟨cY0, cY1, cY2, cY3⟩ := RBox.box bY2.out
    go_wp2_with fail
    refine (A1.out _).mono ?_
    rintro e w3 ⟨rfl, hb3⟩
    have bX3 := hid (bX2.out.below hb3)
    have bY3 := hid (bY2.out.below hb3)
    have bel3 := hid (bel2.out.to hb3)
    clear hb3 bX2 bY2 bel2
    have bX4 := hid (bX3.out.alloc (cellsR4 (1) (0) (0) (0)))
    have neZX := RBox.lt bX3.out
    have bY4 := hid (bY3.out.alloc (cellsR4 (1) (0) (0) (0)))
    have neZY := RBox.lt bY3.out
    have bZ4 := hid (RBox.new w3 (1) (0) (0) (0))
    have bel4 := hid (bel3.out.alloc bel3.out.size (cellsR4 (1) (0) (0) (0)))
    have leZ := bel3.out.size
    clear bX3 bY3 bel3
    obtain ⟨cX0, cX1, cX2, cX3⟩ := RBox.box bX4.out
    obtain ⟨cY0, cY1, cY2, cY3⟩ := RBox.box bY4.out
    go_wp2_with fail
    clear cX0 cX1 cX2 cX3 cY0 cY1 cY2 cY3
    generalize w3.alloc (cellsR4 (1) (0) (0) (0)) = w4 at *
    generalize w3.heap.size = Z at *
    refine (A2.out _).mono ?_
    rintro e w5 ⟨rfl, hb5⟩
    have bX5 := hid (bX4.out.below hb5)
    have bY5 := hid (bY4.out.below hb5)
    have bZ5 := hid (bZ4.out.below hb5)
    have bel5 := hid (bel4.out.to hb5)
    clear hb5 bX4 bY4 bZ4 bel4
    have bX6 := hid (bX5.out.alloc (cellsR4 (1) (0) (0) (0)))
    have neTX := RBox.lt bX5.out
    have bY6 := hid (bY5.out.alloc (cellsR4 (1) (0) (0) (0)))
    have neTY := RBox.lt bY5.out
    have bZ6 := hid (bZ5.out.alloc (cellsR4 (1) (0) (0) (0)))
    have neTZ := RBox.lt bZ5.out
    have bT6 := hid (RBox.new w5 (1) (0) (0) (0))
    have bel6 := hid (bel5.out.alloc bel5.out.size (cellsR4 (1) (0) (0) (0)))
    have leT := bel5.out.size
    clear bX5 bY5 bZ5 bel5
    obtain ⟨cX0, cX1, cX2, cX3⟩ := RBox.box bX6.out
    obtain ⟨cY0, cY1, cY2, cY3⟩ := RBox.box bY6.out
    obtain ⟨cZ0, cZ1, cZ2, cZ3⟩ := RBox.box bZ6.out
    obtain ⟨cT0, cT1, cT2, cT3⟩ := RBox.box bT6.out
    go_wp2_with fail
    clear cX0 cX1 cX2 cX3 cY0 cY1 cY2 cY3 cZ0 cZ1 cZ2 cZ3 cT0 cT1 cT2 cT3
    generalize w5.alloc (cellsR4 (1) (0) (0) (0)) = w6 at *
    generalize w5.heap.size = T at *
    refine (A3.out _).mono ?_
    rintro e w7 ⟨rfl, hb7⟩
    have bX7 := hid (bX6.out.below hb7)
    have bY7 := hid (bY6.out.below hb7)
    have bZ7 := hid (bZ6.out.below hb7)
    have bT7 := hid (bT6.out.below hb7)
    have bel7 := hid (bel6.out.to hb7)
    clear hb7 bX6 bY6 bZ6 bT6 bel6
    have bX8 := hid (bX7.out.alloc (cellsR4 (1) (0) (0) (0)))
    have neUX := RBox.lt bX7.out
    have bY8 := hid (bY7.out.alloc (cellsR4 (1) (0) (0) (0)))
    have neUY := RBox.lt bY7.out
    have bZ8 := hid (bZ7.out.alloc (cellsR4 (1) (0) (0) (0)))
    have neUZ := RBox.lt bZ7.out
    have bT8 := hid (bT7.out.alloc (cellsR4 (1) (0) (0) (0)))
    have neUT := RBox.lt bT7.out
    have bU8 := hid (RBox.new w7 (1) (0) (0) (0))
    have bel8 := hid (bel7.out.alloc bel7.out.size (cellsR4 (1) (0) (0) (0)))
    have leU := bel7.out.size
    clear bX7 bY7 bZ7 bT7 bel7
    go_wp2_with fail
    generalize w7.alloc (cellsR4 (1) (0) (0) (0)) = w8 at *
    generalize w7.heap.size = U at *
    refine (drawRangeHas_s _ a1 len1 cap1 hc1 (HS1.out.below bel8.out) hl1).mono ?_
    rintro e w9 ⟨⟨lo2, hi2, b2, o2, n, rfl, les2, hn2⟩, hb9⟩
    have bX9 := hid (bX8.out.below hb9)
    have bY9 := hid (bY8.out.below hb9)
    have bZ9 := hid (bZ8.out.below hb9)
    have bT9 := hid (bT8.out.below hb9)
    have bU9 := hid (bU8.out.below hb9)
    have bel9 := hid (bel8.out.to hb9)
    clear hb9 bX8 bY8 bZ8 bT8 bU8 bel8
    clear les2 hn2 HS HS1
    have bX10 := hid (bX9.out.alloc (cellsR4 (lo2) (hi2) (b2) (o2)))
    have neSX := RBox.lt bX9.out
    have bY10 := hid (bY9.out.alloc (cellsR4 (lo2) (hi2) (b2) (o2)))
    have neSY := RBox.lt bY9.out
    have bZ10 := hid (bZ9.out.alloc (cellsR4 (lo2) (hi2) (b2) (o2)))
    have neSZ := RBox.lt bZ9.out
    have bT10 := hid (bT9.out.alloc (cellsR4 (lo2) (hi2) (b2) (o2)))
    have neST := RBox.lt bT9.out
    have bU10 := hid (bU9.out.alloc (cellsR4 (lo2) (hi2) (b2) (o2)))
    have neSU := RBox.lt bU9.out
    have bS10 := hid (RBox.new w9 (lo2) (hi2) (b2) (o2))
    have bel10 := hid (bel9.out.alloc bel9.out.size (cellsR4 (lo2) (hi2) (b2) (o2)))
    have leS := bel9.out.size
    clear bX9 bY9 bZ9 bT9 bU9 bel9
    obtain ⟨cX0, cX1, cX2, cX3⟩ := RBox.box bX10.out
    obtain ⟨cY0, cY1, cY2, cY3⟩ := RBox.box bY10.out
    go_wp2_with fail
    clear cX0 cX1 cX2 cX3 cY0 cY1 cY2 cY3
    generalize w9.alloc (cellsR4 (lo2) (hi2) (b2) (o2)) = w10 at *
    generalize w9.heap.size = S at *
    cases e1 : hasI lo hi b o n
    · skip
      refine (ans_has lo hi b o n e1 _).mono ?_
      rintro e w11 ⟨rfl, hb11⟩
      have bX11 := hid (bX10.out.below hb11)
      have bY11 := hid (bY10.out.below hb11)
      have bZ11 := hid (bZ10.out.below hb11)
      have bT11 := hid (bT10.out.below hb11)
      have bU11 := hid (bU10.out.below hb11)
      have bS11 := hid (bS10.out.below hb11)
      have bel11 := hid (bel10.out.to hb11)
      clear hb11 bX10 bY10 bZ10 bT10 bU10 bS10 bel10
      obtain ⟨cX0, cX1, cX2, cX3⟩ := RBox.box bX11.out
      obtain ⟨cY0, cY1, cY2, cY3⟩ := RBox.box bY11.out
      go_wp2_with fail
      refine (AL.out _).mono ?_
      rintro e w12 ⟨rfl, hb12⟩
      have bX12 := hid (bX11.out.below hb12)
      have bY12 := hid (bY11.out.below hb12)
      have bZ12 := hid (bZ11.out.below hb12)
      have bT12 := hid (bT11.out.below hb12)
      have bU12 := hid (bU11.out.below hb12)
      have bS12 := hid (bS11.out.below hb12)
      have bel12 := hid (bel11.out.to hb12)
      clear hb12 bX11 bY11 bZ11 bT11 bU11 bS11 bel11
      obtain ⟨cX0, cX1, cX2, cX3⟩ := RBox.box bX12.out
      obtain ⟨cY0, cY1, cY2, cY3⟩ := RBox.box bY12.out
      go_wp2_with fail
      cases e2 : hasI lo hi b o lq
      · skip
        refine (ans_has lo hi b o lq e2 _).mono ?_
        rintro e w13 ⟨rfl, hb13⟩
        have bX13 := hid (bX12.out.below hb13)
        have bY13 := hid (bY12.out.below hb13)
        have bZ13 := hid (bZ12.out.below hb13)
        have bT13 := hid (bT12.out.below hb13)
        have bU13 := hid (bU12.out.below hb13)
        have bS13 := hid (bS12.out.below hb13)
        have bel13 := hid (bel12.out.to hb13)
        clear hb13 bX12 bY12 bZ12 bT12 bU12 bS12 bel12
        obtain ⟨cZ0, cZ1, cZ2, cZ3⟩ := RBox.box bZ13.out
        obtain ⟨cU0, cU1, cU2, cU3⟩ := RBox.box bU13.out
        go_wp2_with fail
        go_wp2_with fail
        go_ret
        exact ⟨rfl, bel13.out⟩
      · cases f2 : hasI lo' hi' b' o' lq
        · skip
          refine (ans_has lo hi b o lq e2 _).mono ?_
          rintro e w13 ⟨rfl, hb13⟩
          have bX13 := hid (bX12.out.below hb13)
          have bY13 := hid (bY12.out.below hb13)
          have bZ13 := hid (bZ12.out.below hb13)
          have bT13 := hid (bT12.out.below hb13)
          have bU13 := hid (bU12.out.below hb13)
          have bS13 := hid (bS12.out.below hb13)
          have bel13 := hid (bel12.out.to hb13)
          clear hb13 bX12 bY12 bZ12 bT12 bU12 bS12 bel12
          obtain ⟨cX0, cX1, cX2, cX3⟩ := RBox.box bX13.out
          obtain ⟨cY0, cY1, cY2, cY3⟩ := RBox.box bY13.out
          go_wp2_with fail
          refine (ans_has lo' hi' b' o' lq f2 _).mono ?_
          rintro e w14 ⟨rfl, hb14⟩
          have bX14 := hid (bX13.out.below hb14)
          have bY14 := hid (bY13.out.below hb14)
          have bZ14 := hid (bZ13.out.below hb14)
          have bT14 := hid (bT13.out.below hb14)
          have bU14 := hid (bU13.out.below hb14)
          have bS14 := hid (bS13.out.below hb14)
          have bel14 := hid (bel13.out.to hb14)
          clear hb14 bX13 bY13 bZ13 bT13 bU13 bS13 bel13
          obtain ⟨cZ0, cZ1, cZ2, cZ3⟩ := RBox.box bZ14.out
          obtain ⟨cU0, cU1, cU2, cU3⟩ := RBox.box bU14.out
          go_wp2_with fail
          go_wp2_with fail
          go_ret
          exact ⟨rfl, bel14.out⟩
        · exact absurd (HH.out lq) (by rw [e2, f2]; decide)
    · cases f1 : hasI lo' hi' b' o' n
      · skip
        refine (ans_has lo hi b o n e1 _).mono ?_
        rintro e w11 ⟨rfl, hb11⟩
        have bX11 := hid (bX10.out.below hb11)
        have bY11 := hid (bY10.out.below hb11)
        have bZ11 := hid (bZ10.out.below hb11)
        have bT11 := hid (bT10.out.below hb11)
        have bU11 := hid (bU10.out.below hb11)
        have bS11 := hid (bS10.out.below hb11)
        have bel11 := hid (bel10.out.to hb11)
        clear hb11 bX10 bY10 bZ10 bT10 bU10 bS10 bel10
        obtain ⟨cX0, cX1, cX2, cX3⟩ := RBox.box bX11.out
        obtain ⟨cY0, cY1, cY2, cY3⟩ := RBox.box bY11.out
        go_wp2_with fail
        refine (ans_has lo' hi' b' o' n f1 _).mono ?_
        rintro e w12 ⟨rfl, hb12⟩
        have bX12 := hid (bX11.out.below hb12)
        have bY12 := hid (bY11.out.below hb12)
        have bZ12 := hid (bZ11.out.below hb12)
        have bT12 := hid (bT11.out.below hb12)
        have bU12 := hid (bU11.out.below hb12)
        have bS12 := hid (bS11.out.below hb12)
        have bel12 := hid (bel11.out.to hb12)
        clear hb12 bX11 bY11 bZ11 bT11 bU11 bS11 bel11
        obtain ⟨cX0, cX1, cX2, cX3⟩ := RBox.box bX12.out
        obtain ⟨cY0, cY1, cY2, cY3⟩ := RBox.box bY12.out
        go_wp2_with fail
        refine (AL.out _).mono ?_
        rintro e w13 ⟨rfl, hb13⟩
        have bX13 := hid (bX12.out.below hb13)
        have bY13 := hid (bY12.out.below hb13)
        have bZ13 := hid (bZ12.out.below hb13)
        have bT13 := hid (bT12.out.below hb13)
        have bU13 := hid (bU12.out.below hb13)
        have bS13 := hid (bS12.out.below hb13)
        have bel13 := hid (bel12.out.to hb13)
        clear hb13 bX12 bY12 bZ12 bT12 bU12 bS12 bel12
        obtain ⟨cX0, cX1, cX2, cX3⟩ := RBox.box bX13.out
        obtain ⟨cY0, cY1, cY2, cY3⟩ := RBox.box bY13.out
        go_wp2_with fail
        cases e2 : hasI lo hi b o lq
        · skip
          refine (ans_has lo hi b o lq e2 _).mono ?_
          rintro e w14 ⟨rfl, hb14⟩
          have bX14 := hid (bX13.out.below hb14)
          have bY14 := hid (bY13.out.below hb14)
          have bZ14 := hid (bZ13.out.below hb14)
          have bT14 := hid (bT13.out.below hb14)
          have bU14 := hid (bU13.out.below hb14)
          have bS14 := hid (bS13.out.below hb14)
          have bel14 := hid (bel13.out.to hb14)
          clear hb14 bX13 bY13 bZ13 bT13 bU13 bS13 bel13
          obtain ⟨cZ0, cZ1, cZ2, cZ3⟩ := RBox.box bZ14.out
          obtain ⟨cU0, cU1, cU2, cU3⟩ := RBox.box bU14.out
          go_wp2_with fail
          go_wp2_with fail
          go_ret
          exact ⟨rfl, bel14.out⟩
        · cases f2 : hasI lo' hi' b' o' lq
          · skip
            refine (ans_has lo hi b o lq e2 _).mono ?_
            rintro e w14 ⟨rfl, hb14⟩
            have bX14 := hid (bX13.out.below hb14)
            have bY14 := hid (bY13.out.below hb14)
            have bZ14 := hid (bZ13.out.below hb14)
            have bT14 := hid (bT13.out.below hb14)
            have bU14 := hid (bU13.out.below hb14)
            have bS14 := hid (bS13.out.below hb14)
            have bel14 := hid (bel13.out.to hb14)
            clear hb14 bX13 bY13 bZ13 bT13 bU13 bS13 bel13
            obtain ⟨cX0, cX1, cX2, cX3⟩ := RBox.box bX14.out
            obtain ⟨cY0, cY1, cY2, cY3⟩ := RBox.box bY14.out
            go_wp2_with fail
            refine (ans_has lo' hi' b' o' lq f2 _).mono ?_
            rintro e w15 ⟨rfl, hb15⟩
            have bX15 := hid (bX14.out.below hb15)
            have bY15 := hid (bY14.out.below hb15)
            have bZ15 := hid (bZ14.out.below hb15)
            have bT15 := hid (bT14.out.below hb15)
            have bU15 := hid (bU14.out.below hb15)
            have bS15 := hid (bS14.out.below hb15)
            have bel15 := hid (bel14.out.to hb15)
            clear hb15 bX14 bY14 bZ14 bT14 bU14 bS14 bel14
            obtain ⟨cZ0, cZ1, cZ2, cZ3⟩ := RBox.box bZ15.out
            obtain ⟨cU0, cU1, cU2, cU3⟩ := RBox.box bU15.out
            go_wp2_with fail
            go_wp2_with fail
            go_ret
            exact ⟨rfl, bel15.out⟩
          · exact absurd (HH.out lq) (by rw [e2, f2]; decide)
      · exact absurd (HH.out n) (by rw [e1, f1]; decide)
end Go.Proofs.Yteiglpijjffneaa
