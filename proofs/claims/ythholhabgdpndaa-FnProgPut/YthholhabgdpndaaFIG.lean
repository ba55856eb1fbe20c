/- FnInsGet: what is read as an op is written just so. -/
import Derived.Test.YthholhabgdpndaaKB
import Derived.Test.YthholhabgdpndaaFIP
namespace Go.Proofs.Ythholhabgdpndaa
open Go.RowKit
set_option linter.unusedVariables false
set_option linter.unusedSimpArgs false

set_option maxRecDepth 100000 in
set_option maxHeartbeats 4000000 in
theorem drawInsGet_w (w : World) (a : Option Addr) (len cap : Nat) (hc : len ≤ cap) (hs : Src w a len) (hl : cap < 2 ^ 63) :
    Calls Try.prog 14 #[.slice a len cap] w fun e w' => AnT 2100 e ∧ Below w.heap.size w w' := by
  have HS := hid hs
  clear hs
  go_enter Try.func14, Try.ntmps14
  go_wp2_with fail
  refine (open_s w a len cap hc HS.out hl).mono ?_
  rintro e w1 ⟨n, rfl, h1⟩
  have HR := hid h1
  clear h1
  go_wp2_with fail
  refine (ins_k HR.out (by omega)).mono ?_
  rintro e w2 ⟨⟨z0, z1, z2, z3, z4, z5, rfl⟩, q2, hq2, kk⟩
  have HD := hid kk
  clear kk HR
  go_wp2_with fail
  refine (f12 z0 z1 z2 z3 z4 z5 _).mono ?_
  rintro e w3 ⟨rfl, b3⟩
  replace HD := hid (HD.out.below b3)
  clear b3
  have hsz : (insS z0 z1 z2 z3 z4 z5).size ≤ 1000 := by
    unfold insS
    split
    · rw [putS_size]; omega
    · decide
  generalize insS z0 z1 z2 z3 z4 z5 = s at *
  go_wp2_with fail
  refine (pick_k HD.out.rs (by omega) 3 (by omega) (by omega)).mono ?_
  rintro e w4 ⟨m, rfl, hm, kk⟩
  replace HD := hid (HD.out.draw kk)
  clear kk
  have hm0 : (0 : Int) ≤ (m : Int) := by omega
  generalize (m : Int) = y at *
  by_cases hy : 0 < y
  · go_wp2_with fail
    go_ret
    exact ⟨⟨s, rfl, by omega⟩, HD.out.rs.bel⟩
  · go_wp2_with fail
    refine (bent_k HD.out.rs (by omega) s hsz).mono ?_
    rintro e w5 ⟨⟨t, rfl, ht⟩, q5, hq5, kk⟩
    replace HD := hid (HD.out.draw kk)
    clear kk
    go_wp2_with fail
    go_ret
    exact ⟨⟨t, rfl, ht⟩, HD.out.rs.bel⟩

set_option maxRecDepth 100000 in
set_option maxHeartbeats 4000000 in
theorem law_fnInsGet (w : World) (a : Option Addr) (len cap : Nat) (hc : len ≤ cap) (hs : Src w a len) (hl : cap < 2 ^ 63) :
    Calls Try.prog 4 #[.slice a len cap] w fun e w' => e = .returned (.bool true) ∧ Below w.heap.size w w' := by
  have HS := hid hs
  clear hs
  go_enter Try.func4, Try.ntmps4
  go_wp2_with fail
  · go_ret
    exact ⟨rfl, Below.refl _ _⟩
  refine (drawInsGet_w w a len cap hc HS.out hl).mono ?_
  rintro e w1 ⟨⟨s, rfl, hsb⟩, hb1⟩
  have HB := hid hb1
  have hsb' : (s.size : Int) ≤ 2100 := by omega
  clear hb1 HS
  go_wp2_with fail
  obtain ⟨y, hy, hs14, hi15⟩ | ⟨hn, hs14, hi15⟩ := get_cases s
  all_goals have Hs := hid hs14
  all_goals have Hi := hid hi15
  all_goals clear hs14 hi15
  · obtain ⟨hok, hput, hsz⟩ := put_of_get hy
    have hok2 : insOkB y.o y.d y.s y.f y.i y.z = true := by rw [ok_same]; exact hok
    have hins : Hid (insS y.o y.d y.s y.f y.i y.z = s) := by show _ = _; rw [insS, if_pos hok, hput]
    have hsn : Hid (getI (s ++ ⟨#[0]⟩) = none) := by
      show _ = _
      cases e : getI (s ++ ⟨#[0]⟩)
      · rfl
      · have := (put_of_get e).2.2
        rw [ByteArray.size_append, hsz] at this
        cases this
    clear hok hput hy
    refine (Hi.out _).mono ?_
    rintro e w2 ⟨rfl, b9⟩
    replace HB := hid (HB.out.to b9)
    clear b9
    clear Hi
    go_wp2_with fail
    have hxX : Box6 (w2.alloc (.cells #[.int .i64 y.o, .int .i64 y.d, .int .i64 y.s, .int .i64 y.f, .int .i64 y.i, .int .i64 y.z] 24)) w2.heap.size y.o y.d y.s y.f y.i y.z := World.alloc_heap_new w2 _
    have ba : Below w2.heap.size w2 (w2.alloc (.cells #[.int .i64 y.o, .int .i64 y.d, .int .i64 y.s, .int .i64 y.f, .int .i64 y.i, .int .i64 y.z] 24)) := (Below.refl _ _).alloc (Nat.le_refl _) _
    have HX := hid hxX
    replace HB := hid (HB.out.to ba)
    clear hxX ba
    generalize w2.alloc (.cells #[.int .i64 y.o, .int .i64 y.d, .int .i64 y.s, .int .i64 y.f, .int .i64 y.i, .int .i64 y.z] 24) = w2x at *
    generalize w2.heap.size = X at *
    refine (Hs.out _).mono ?_
    rintro e w3 ⟨rfl, b9⟩
    replace HX := hid (HX.out.bel b9)
    replace HB := hid (HB.out.to b9)
    clear b9
    clear Hs
    have hY : Box6 (w3.alloc (.cells #[.int .i64 y.o, .int .i64 y.d, .int .i64 y.s, .int .i64 y.f, .int .i64 y.i, .int .i64 y.z] 24)) w3.heap.size y.o y.d y.s y.f y.i y.z := World.alloc_heap_new w3 _
    have HY := hid hY
    clear hY
    have xl0 := Box6.lt HX.out
    have hba : Below w3.heap.size w3 (w3.alloc (.cells #[.int .i64 y.o, .int .i64 y.d, .int .i64 y.s, .int .i64 y.f, .int .i64 y.i, .int .i64 y.z] 24)) := (Below.refl _ w3).alloc (Nat.le_refl _) _
    replace HX := hid (HX.out.bel hba)
    replace HB := hid (HB.out.to hba)
    clear hba
    obtain ⟨x0, x1, x2, x3, x4, x5⟩ := Box6.cells HX.out
    have xl := Box6.lt HX.out
    obtain ⟨y0, y1, y2, y3, y4, y5⟩ := Box6.cells HY.out
    have yl := Box6.lt HY.out
    have hsz' : (s.size : Int) = 8 := by omega
    go_wp2_with fail
    clear x0 x1 x2 x3 x4 x5 xl
    clear y0 y1 y2 y3 y4 y5 yl
    clear HY
    generalize w3.alloc (.cells #[.int .i64 y.o, .int .i64 y.d, .int .i64 y.s, .int .i64 y.f, .int .i64 y.i, .int .i64 y.z] 24) = w4 at *
    obtain ⟨y9, h9, -, -⟩ | ⟨-, -, hm⟩ := get_cases (s ++ ⟨#[0]⟩)
    case inl => rw [hsn.out] at h9; cases h9
    refine (hm _).mono ?_
    rintro e w5 ⟨rfl, b9⟩
    replace HX := hid (HX.out.bel b9)
    replace HB := hid (HB.out.to b9)
    clear b9
    clear hm
    have hba : Below w5.heap.size w5 (w5.alloc (.cells #[.int .i64 0, .int .i64 0, .int .i64 0, .int .i64 0, .int .i64 0, .int .i64 0] 24)) := (Below.refl _ w5).alloc (Nat.le_refl _) _
    have xl5 := Box6.lt HX.out
    replace HX := hid (HX.out.bel hba)
    replace HB := hid (HB.out.to hba)
    clear hba
    obtain ⟨x0, x1, x2, x3, x4, x5⟩ := Box6.cells HX.out
    have xl := Box6.lt HX.out
    go_wp2_with fail
    clear x0 x1 x2 x3 x4 x5 xl
    generalize w5.alloc (.cells #[.int .i64 0, .int .i64 0, .int .i64 0, .int .i64 0, .int .i64 0, .int .i64 0] 24) = w6 at *
    refine (f13 _ _ _ _ _ _ _).mono ?_
    rw [hins.out]
    rintro e w7 ⟨rfl, b9⟩
    replace HX := hid (HX.out.bel b9)
    replace HB := hid (HB.out.to b9)
    clear b9
    obtain ⟨x0, x1, x2, x3, x4, x5⟩ := Box6.cells HX.out
    have xl := Box6.lt HX.out
    go_wp2_with fail
    clear x0 x1 x2 x3 x4 x5 xl
    all_goals (refine (f11 _ _ _ _ _ _ _).mono ?_)
    rw [hok2]
    rintro e w8 ⟨rfl, b9⟩
    replace HB := hid (HB.out.to b9)
    clear b9
    go_wp2_with fail
    all_goals go_ret
    all_goals exact ⟨by simp_all, HB.out⟩
  · skip
    refine (Hi.out _).mono ?_
    rintro e w2 ⟨rfl, b9⟩
    replace HB := hid (HB.out.to b9)
    clear b9
    clear Hi
    go_wp2_with fail
    have hxX : Box6 (w2.alloc (.cells #[.int .i64 0, .int .i64 0, .int .i64 0, .int .i64 0, .int .i64 0, .int .i64 0] 24)) w2.heap.size 0 0 0 0 0 0 := World.alloc_heap_new w2 _
    have ba : Below w2.heap.size w2 (w2.alloc (.cells #[.int .i64 0, .int .i64 0, .int .i64 0, .int .i64 0, .int .i64 0, .int .i64 0] 24)) := (Below.refl _ _).alloc (Nat.le_refl _) _
    have HX := hid hxX
    replace HB := hid (HB.out.to ba)
    clear hxX ba
    generalize w2.alloc (.cells #[.int .i64 0, .int .i64 0, .int .i64 0, .int .i64 0, .int .i64 0, .int .i64 0] 24) = w2x at *
    generalize w2.heap.size = X at *
    refine (Hs.out _).mono ?_
    rintro e w3 ⟨rfl, b9⟩
    replace HX := hid (HX.out.bel b9)
    replace HB := hid (HB.out.to b9)
    clear b9
    clear Hs
    have hY : Box6 (w3.alloc (.cells #[.int .i64 0, .int .i64 0, .int .i64 0, .int .i64 0, .int .i64 0, .int .i64 0] 24)) w3.heap.size 0 0 0 0 0 0 := World.alloc_heap_new w3 _
    have HY := hid hY
    clear hY
    have HX2 := hid (HX.out.bel ((Below.refl _ w3).alloc (Nat.le_refl _) (.cells #[.int .i64 0, .int .i64 0, .int .i64 0, .int .i64 0, .int .i64 0, .int .i64 0] 24)))
    have HB2 := hid (HB.out.to ((Below.refl _ w3).alloc (Nat.le_refl _) (.cells #[.int .i64 0, .int .i64 0, .int .i64 0, .int .i64 0, .int .i64 0, .int .i64 0] 24)))
    obtain ⟨x0, x1, x2, x3, x4, x5⟩ := Box6.cells HX2.out
    have xl := Box6.lt HX2.out
    obtain ⟨y0, y1, y2, y3, y4, y5⟩ := Box6.cells HY.out
    have xl0 := Box6.lt HX.out
    go_wp2_with fail
    all_goals go_ret
    all_goals exact ⟨by simp_all, HB2.out⟩
end Go.Proofs.Ythholhabgdpndaa
