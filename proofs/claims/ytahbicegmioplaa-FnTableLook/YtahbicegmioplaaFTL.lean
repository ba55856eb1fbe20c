/- The law of TableLook, drawn. -/
import Derived.Test.YtahbicegmioplaaDL
namespace Go.Proofs.Ytahbicegmioplaa
open Go.RowKit
set_option linter.unusedVariables false
set_option linter.unusedSimpArgs false


theorem str_eq (a b : ByteArray) : (a.toList == b.toList) = true ↔ a = b := by
  rw [ByteArray.toList_eq, ByteArray.toList_eq, beq_iff_eq]
  constructor
  · intro h
    obtain ⟨⟨x⟩⟩ := a
    obtain ⟨⟨y⟩⟩ := b
    simp only at h
    rw [h]
  · rintro rfl
    rfl
open Classical in
/-- Whether the key and the value stand side by side among the first. -/
noncomputable def isL (ks : List Int) (vs : List ByteArray) (key : Int) (val : ByteArray) (n : Nat) : Bool := decide (∃ i, i < n ∧ ks[i]? = some key ∧ vs[i]? = some val)
theorem isL_zero (ks : List Int) (vs : List ByteArray) (key : Int) (val : ByteArray) : isL ks vs key val 0 = false := by simp [isL]
theorem isL_succ {ks : List Int} {vs : List ByteArray} (key : Int) (val : ByteArray) {n : Nat} {y : Int} {x : ByteArray} (hy : ks[n]? = some y) (hx : vs[n]? = some x) : isL ks vs key val (n + 1) = (isL ks vs key val n || (y == key && x.toList == val.toList)) := by
  rw [Bool.eq_iff_iff]
  simp only [isL, decide_eq_true_eq, Bool.or_eq_true, Bool.and_eq_true, str_eq]
  constructor
  · rintro ⟨i, hi, h1, h2⟩
    by_cases e : i = n
    · subst e
      rw [hy] at h1; rw [hx] at h2
      exact .inr ⟨by simpa using h1, by simpa using h2⟩
    · exact .inl ⟨i, by omega, h1, h2⟩
  · rintro (⟨i, hi, h1, h2⟩ | ⟨h3, rfl⟩)
    · exact ⟨i, by omega, h1, h2⟩
    · obtain rfl : y = key := by simpa using h3
      exact ⟨n, by omega, hy, hx⟩
theorem look_is {k s r : Int} {ks : List Int} {vs : List ByteArray} (key : Int) (hok : okB k s r ks vs = true) : isL ks vs key (lookT k s r ks vs key).1 ks.length = (lookT k s r ks vs key).2 := by
  have hl := (shape2_len (okB_true.1 hok).shape).1
  unfold lookT
  rw [if_pos hok]
  rcases atI_cases ks key with ⟨_, hno⟩ | ⟨i, hi, _, hthere, hno⟩
  · rw [look_not hno]
    have : ¬ ∃ i, i < ks.length ∧ ks[i]? = some key ∧ vs[i]? = some (⟨#[]⟩ : ByteArray) := by
      rintro ⟨i, hi, h1, _⟩
      have := hno i hi
      rw [List.getElem?_eq_getElem hi] at h1
      simp only [Option.some.injEq] at h1
      simp [h1] at this
    simp [isL, this]
  · rw [look_there hl hi hthere hno]
    have : ∃ j, j < ks.length ∧ ks[j]? = some key ∧ vs[j]? = some vs[i] := ⟨i, hi, by rw [List.getElem?_eq_getElem hi]; simpa using hthere, by rw [List.getElem?_eq_getElem]⟩
    simp [isL, this]

set_option maxRecDepth 100000 in
set_option maxHeartbeats 4000000 in
theorem law_fnTableLook (w : World) (a : Option Addr) (len cap : Nat) (hc : len ≤ cap) (hs : Src w a len) (hl : cap < 2 ^ 63) :
    Calls Try.prog 7 #[.slice a len cap] w fun e w' => e = .returned (.bool true) ∧ Below w.heap.size w w' := by
  have HS := hid hs
  clear hs
  go_enter Try.func7, Try.ntmps7
  go_wp2_with fail
  · go_ret
    exact ⟨rfl, Below.refl _ _⟩
  refine (drawLook_s w a len cap hc HS.out hl).mono ?_
  rintro e w1 ⟨k, s, r, ks, vs, a1, b1, c1, d1, key, rfl, hr, hk0, hv0, hb1⟩
  have bel1 := hid hb1
  have rT1 := hid hr
  have hk : ks.length ≤ 1048576 := by omega
  have hv : vs.length ≤ 1048576 := by omega
  clear hb1 hr
  cases hok : okB k s r ks vs
  · have HOK := hid hok
    have HL : Hid (lookT k s r ks vs key = (⟨#[]⟩, false)) := by show lookT k s r ks vs key = _; unfold lookT; rw [hok]; rfl
    clear hok
    go_wp2_with fail
    have bm2 := hid (TB.new rT1.out k s r)
    have bel2 := hid (bel1.out.alloc bel1.out.size (.cells #[.int .i64 k, .int .i64 s, .int .i64 r, .slice a1 ks.length c1, .slice b1 vs.length d1] 28))
    have lem := bel1.out.size
    clear rT1 bel1
    generalize w1.alloc (.cells #[.int .i64 k, .int .i64 s, .int .i64 r, .slice a1 ks.length c1, .slice b1 vs.length d1] 28) = w2 at *
    generalize w1.heap.size = m at *
    refine (look_o k s r ks vs a1 b1 c1 d1 key _ bm2.out.rw hk hv).mono ?_
    rw [HL.out]
    dsimp only
    rintro e w3 ⟨rfl, hb3⟩
    have bm3 := hid (bm2.out.below hb3)
    have bel3 := hid (bel2.out.to hb3)
    clear bm2 bel2 hb3
    obtain ⟨cm0, cm1, cm2, cm3, cm4⟩ := bm3.out.cl
    have cml := bm3.out.lt
    go_wp2_with fail
    clear cm0 cm1 cm2 cm3 cm4 cml
    refine (slook_o k s r ks vs a1 b1 c1 d1 key _ bm3.out.rw hk hv).mono ?_
    rw [HL.out]
    dsimp only
    rintro e w4 ⟨rfl, hb4⟩
    have bm4 := hid (bm3.out.below hb4)
    have bel4 := hid (bel3.out.to hb4)
    clear bm3 bel3 hb4
    obtain ⟨cm0, cm1, cm2, cm3, cm4⟩ := bm4.out.cl
    have cml := bm4.out.lt
    go_wp2_with fail
    clear cm0 cm1 cm2 cm3 cm4 cml
    refine (ok_o k s r ks vs a1 b1 c1 d1 _ bm4.out.rw hk hv).mono ?_
    rw [HOK.out]
    rintro e w5 ⟨rfl, hb5⟩
    have bm5 := hid (bm4.out.below hb5)
    have bel5 := hid (bel4.out.to hb5)
    clear bm4 bel4 hb5
    go_wp2_with fail
    go_ret
    exact ⟨rfl, bel5.out⟩
  · have hF := look_is key hok
    have HLN := hid (shape2_len (okB_true.1 hok).shape).1
    obtain ⟨val, q, hvq⟩ : ∃ val q, lookT k s r ks vs key = (val, q) := ⟨_, _, rfl⟩
    rw [hvq] at hF
    have HL := hid hvq
    have HOK := hid hok
    have HF := hid hF
    clear hok hvq hF
    dsimp only at HF
    go_wp2_with fail
    have bm2 := hid (TB.new rT1.out k s r)
    have bel2 := hid (bel1.out.alloc bel1.out.size (.cells #[.int .i64 k, .int .i64 s, .int .i64 r, .slice a1 ks.length c1, .slice b1 vs.length d1] 28))
    have lem := bel1.out.size
    clear rT1 bel1
    generalize w1.alloc (.cells #[.int .i64 k, .int .i64 s, .int .i64 r, .slice a1 ks.length c1, .slice b1 vs.length d1] 28) = w2 at *
    generalize w1.heap.size = m at *
    refine (look_o k s r ks vs a1 b1 c1 d1 key _ bm2.out.rw hk hv).mono ?_
    rw [HL.out]
    dsimp only
    rintro e w3 ⟨rfl, hb3⟩
    have bm3 := hid (bm2.out.below hb3)
    have bel3 := hid (bel2.out.to hb3)
    clear bm2 bel2 hb3
    obtain ⟨cm0, cm1, cm2, cm3, cm4⟩ := bm3.out.cl
    have cml := bm3.out.lt
    go_wp2_with fail
    clear cm0 cm1 cm2 cm3 cm4 cml
    refine (slook_o k s r ks vs a1 b1 c1 d1 key _ bm3.out.rw hk hv).mono ?_
    rw [HL.out]
    dsimp only
    rintro e w4 ⟨rfl, hb4⟩
    have bm4 := hid (bm3.out.below hb4)
    have bel4 := hid (bel3.out.to hb4)
    clear bm3 bel3 hb4
    obtain ⟨cm0, cm1, cm2, cm3, cm4⟩ := bm4.out.cl
    have cml := bm4.out.lt
    go_wp2_with fail
    clear cm0 cm1 cm2 cm3 cm4 cml
    refine (ok_o k s r ks vs a1 b1 c1 d1 _ bm4.out.rw hk hv).mono ?_
    rw [HOK.out]
    rintro e w5 ⟨rfl, hb5⟩
    have bm5 := hid (bm4.out.below hb5)
    have bel5 := hid (bel4.out.to hb5)
    clear bm4 bel4 hb5
    obtain ⟨cm0, cm1, cm2, cm3, cm4⟩ := bm5.out.cl
    have cml := bm5.out.lt
    go_wp2_with fail
    clear cm0 cm1 cm2 cm3 cm4 cml
    go_loopw [9, 10] (fun is i wr => ∃ j : Nat, j ≤ ks.length ∧ is = .bool (isL ks vs key val j) ∧ i = .int .i64 j ∧ TB wr m k s r ks vs a1 b1 c1 d1 ∧ Below w.heap.size w wr) (fun _ i _ => ks.length - (intOf i).toNat)
    case atStart => exact ⟨0, Nat.zero_le _, by rw [isL_zero], rfl, bm5.out, bel5.out⟩
    case round =>
      clear bm5 bel5
      obtain ⟨j, hj, rfl, rfl, hbm, hbel⟩ := hrel
      by_cases hlt : j < ks.length
      · have hltv : j < vs.length := by have := HLN.out; omega
        have hlt' : (j : Int) < (ks.length : Int) := by omega
        have hltv' : (j : Int) < (vs.length : Int) := by omega
        have hj0 : (0 : Int) ≤ (j : Int) := by omega
        obtain ⟨g1, p1, rfl, hg1, hkey⟩ := ArgI.at hbm.rw.I j hlt
        obtain ⟨g2, p2, rfl, hg2, hval⟩ := ArgS.at hbm.rw.S j hltv
        obtain ⟨y, hy⟩ : ∃ y, y = ks[j] := ⟨_, rfl⟩
        obtain ⟨x, hx⟩ : ∃ x, x = vs[j] := ⟨_, rfl⟩
        rw [← hy] at hkey
        rw [← hx] at hval
        have HST := hid (isL_succ key val (n := j) (y := y) (x := x) (by rw [hy, List.getElem?_eq_getElem]) (by rw [hx, List.getElem?_eq_getElem]))
        obtain ⟨c0, c1', c2, c3, c4⟩ := hbm.cl
        have cl := hbm.lt
        have HBM := hid hbm
        have HBE := hid hbel
        clear hbm hbel hy hx
        cases hq : isL ks vs key val j <;> cases hyk : (y == key) <;> cases hxv : (x.toList == val.toList)
        all_goals (
          rw [hq, hyk, hxv] at HST
          have HQ := hid hq
          clear hq
          go_wp2_with fail
          go_roundw
          case rel => exact ⟨j + 1, by omega, by rw [HST.out]; rfl, by go_num, HBM.out, HBE.out⟩
          case measure => simp [intOf]; omega)
      · obtain rfl : j = ks.length := by omega
        rw [HF.out]
        obtain ⟨c0, c1', c2, c3, c4⟩ := hbm.cl
        have cl := hbm.lt
        have HBE := hid hbel
        clear hbm hbel
        cases q <;> (go_wp2_with fail; go_ret; exact ⟨rfl, HBE.out⟩)
end Go.Proofs.Ytahbicegmioplaa
