/- LinePut of both; the law FnExactLinePut. -/
import Derived.Test.YtbbecofgmodfiaaGreatDoorNQ
namespace Go.Proofs.YtbbecofgmodfiaaGreatDoor.G
open Go.RowKit
set_option linter.unusedVariables false
set_option linter.unusedSimpArgs false

theorem srp (x : ByteArray) : SR_ ++ x = SP_ ++ (⟨#[114]⟩ ++ x) := by rw [← ByteArray.append_assoc]; rfl
/-- What LinePut writes. -/
def linePutS (o d s f i z : Int) : ByteArray := if sokB o d s f i z then lineS o d s f i z else ⟨#[]⟩

set_option maxRecDepth 100000 in
set_option maxHeartbeats 4000000 in
theorem putNo (o d s f i z : Int) (w : World) (hok : insOkB o d s f i z = false) : Calls Tryz.prog 6 #[.agg #[.int .i64 o, .int .i64 d, .int .i64 s, .int .i64 f, .int .i64 i, .int .i64 z]] w fun e w' => e = .returned (.string ⟨#[]⟩) ∧ Below w.heap.size w w' := by
  go_enter Tryz.func6, Tryz.ntmps6
  go_wp2_with fail
  refine (f11 _ _ _ _ _ _ _).mono ?_
  rintro e w2 ⟨rfl, b2⟩
  have HZ := hid ((belA w _).to b2)
  clear b2
  rw [hok]
  go_wp2_with fail
  go_ret
  exact ⟨rfl, HZ.out⟩

theorem putI_w (o d s f i z : Int) (w : World) (hT : Tabs w) : Calls Tryz.prog 6 #[.agg #[.int .i64 o, .int .i64 d, .int .i64 s, .int .i64 f, .int .i64 i, .int .i64 z]] w fun e w' => AnE 200 (linePutS o d s f i z) e ∧ Below w.heap.size w w' := by
  cases hok : insOkB o d s f i z
  · refine (putNo o d s f i z w hok).mono ?_
    rintro e w' ⟨rfl, hb⟩
    rw [ok_same] at hok
    exact ⟨⟨⟨#[]⟩, by decide, hid (by unfold linePutS; rw [hok]; rfl), rfl⟩, hb⟩
  have hs := hok
  rw [ok_same] at hs
  have HL : linePutS o d s f i z = lineS o d s f i z := by unfold linePutS; rw [hs]; rfl
  rw [HL]
  clear HL
  have h := hs
  simp only [sokB, Bool.and_eq_true] at h
  obtain ⟨⟨⟨⟨hd, hs'⟩, hf⟩, hi⟩, hb⟩ := h
  have h1 : 0 ≤ d ∧ d ≤ 10 := by simpa [inB] using hd
  have h2 : -1 ≤ s ∧ s ≤ 10 := by simpa [inB] using hs'
  have h3 : -128 ≤ f ∧ f ≤ 127 := by simpa [inB] using hf
  have h4 : 0 ≤ i ∧ i ≤ 4294967295 := by simpa [inB] using hi
  unfold bareB at hb
  cases hA : inB o 1 11
  · cases hJ : inB o 12 15
    · rw [hA, hJ] at hb
      simp only [Bool.false_eq_true, if_false] at hb
      by_cases e16 : o = 16
      · subst e16
        refine (put_o 16 d s f i z w hT hok h1.1 h1.2 h2.1 h2.2 h3.1 h3.2 h4.1 h4.2 (by omega) (by decide) (by decide)).mono (fun e w' h => ⟨h.1.of ?_, h.2⟩)
        simp only [lineS, hA, hJ, ByteArray.append_assoc]; rfl
      by_cases e17 : o = 17
      · subst e17
        have hz : (0 ≤ z ∧ z ≤ 4) ∧ 0 ≤ s := by simp [isB] at hb; omega
        have hr : regI s i = ⟨#[114]⟩ ++ decI s := by unfold regI; rw [if_pos hz.2]
        refine (put_ldxo 17 d s f i z w hT hok h1.1 h1.2 h2.1 h2.2 h3.1 h3.2 h4.1 h4.2 (by omega) (by decide) (by decide) hz.1.1 hz.1.2).mono (fun e w' h => ⟨h.1.of ?_, h.2⟩)
        simp only [lineS, hA, hJ, ByteArray.append_assoc, srp, hr]; rfl
      by_cases e18 : o = 18
      · subst e18
        have hz : 0 ≤ z ∧ z ≤ 4 := by simp [isB] at hb; omega
        refine (put_ldox 18 d s f i z w hT hok h1.1 h1.2 h2.1 h2.2 h3.1 h3.2 h4.1 h4.2 (by omega) (by decide) (by decide) hz.1 hz.2).mono (fun e w' h => ⟨h.1.of ?_, h.2⟩)
        simp only [lineS, hA, hJ, ByteArray.append_assoc, srp]; rfl
      by_cases e19 : o = 19
      · subst e19
        have hz : 1 ≤ i ∧ i ≤ 6 := by simp [isB, inB] at hb; omega
        obtain ⟨n, rfl⟩ : ∃ n : Nat, i = n := ⟨i.toNat, by omega⟩
        refine (put_c n 19 d s f (n : Int) z w hT hok h1.1 h1.2 h2.1 h2.2 h3.1 h3.2 h4.1 h4.2 (by omega) (by decide) (by decide) (by omega)).mono (fun e w' h => ⟨h.1.of ?_, h.2⟩)
        simp only [lineS, hA, hJ, ByteArray.append_assoc, Int.toNat_natCast]; rfl
      have e20 : o = 20 := by simp [isB, e16, e17, e18, e19] at hb; exact hb.1
      subst e20
      refine (put_e 20 d s f i z w hT hok h1.1 h1.2 h2.1 h2.2 h3.1 h3.2 h4.1 h4.2 (by omega) (by decide) (by decide)).mono (fun e w' h => ⟨h.1.of ?_, h.2⟩)
      simp only [lineS, hA, hJ]; rfl
    · have ho : 12 ≤ o ∧ o ≤ 15 := by simpa [inB] using hJ
      obtain ⟨n, rfl⟩ : ∃ n : Nat, o = n := ⟨o.toNat, by omega⟩
      refine (put_dxo n d s f i z w hT hok h1.1 h1.2 h2.1 h2.2 h3.1 h3.2 h4.1 h4.2 (by omega) (by simp [reachesB, isB]; omega) (by simp [partsS, hA, hJ])).mono (fun e w' h => ⟨h.1.of ?_, h.2⟩)
      simp only [lineS, hA, hJ, ByteArray.append_assoc, srp, Int.toNat_natCast]; rfl
  · have ho : 1 ≤ o ∧ o ≤ 11 := by simpa [inB] using hA
    obtain ⟨n, rfl⟩ : ∃ n : Nat, o = n := ⟨o.toNat, by omega⟩
    refine (put_dx n d s f i z w hT hok h1.1 h1.2 h2.1 h2.2 h3.1 h3.2 h4.1 h4.2 (by omega) (by simp [reachesB, isB]; omega) (by simp [partsS, hA])).mono (fun e w' h => ⟨h.1.of ?_, h.2⟩)
    simp only [lineS, hA, ByteArray.append_assoc, srp, Int.toNat_natCast]; rfl

set_option maxRecDepth 100000 in
set_option maxHeartbeats 4000000 in
theorem putS_w (o d s f i z : Int) (w : World) : Calls Tryz.prog 7 #[.agg #[.int .i64 o, .int .i64 d, .int .i64 s, .int .i64 f, .int .i64 i, .int .i64 z]] w fun e w' => AnE 200 (linePutS o d s f i z) e ∧ Below w.heap.size w w' := by
  cases hok : sokB o d s f i z
  · have HL : Hid (linePutS o d s f i z = ⟨#[]⟩) := hid (by unfold linePutS; rw [hok]; rfl)
    go_enter Tryz.func7, Tryz.ntmps7
    go_wp2_with fail
    refine (f28 _ _ _ _ _ _ _).mono ?_
    rintro e w2 ⟨rfl, b2⟩
    have HZ := hid ((belA w _).to b2)
    clear b2
    rw [hok]
    go_wp2_with fail
    go_ret
    exact ⟨⟨⟨#[]⟩, by decide, hid HL.out.symm, rfl⟩, HZ.out⟩
  · have HL : Hid (linePutS o d s f i z = lineS o d s f i z) := hid (by unfold linePutS; rw [hok]; rfl)
    have HOK := hid hok
    have hX := World.alloc_heap_new w (.cells #[.int .i64 o, .int .i64 d, .int .i64 s, .int .i64 f, .int .i64 i, .int .i64 z] 24)
    have HX : Hid (Box6 (w.alloc (.cells #[.int .i64 o, .int .i64 d, .int .i64 s, .int .i64 f, .int .i64 i, .int .i64 z] 24)) w.heap.size o d s f i z) := hid hX
    clear hX
    go_enter Tryz.func7, Tryz.ntmps7
    go_wp2_with fail
    refine (f28 _ _ _ _ _ _ _).mono ?_
    rintro e w2 ⟨rfl, b2⟩
    have HB := hid (HX.out.bel b2)
    have HZ := hid ((belA w _).to b2)
    clear b2 HX
    rw [hok]
    obtain ⟨c0, c1, c2, c3, c4, c5⟩ := Box6.cells HB.out
    have lB := Box6.lt HB.out
    clear hok
    go_wp2_with fail
    refine (line_w _ _ _ _ _ _ _ HOK.out).mono ?_
    rintro e w3 ⟨⟨x, hx, hxe, rfl⟩, b3⟩
    replace HZ := hid (HZ.out.to b3)
    clear b3 c0 c1 c2 c3 c4 c5 lB
    go_wp2_with fail
    go_ret
    exact ⟨⟨x, hx, hid (by rw [hxe.out, HL.out]), rfl⟩, HZ.out⟩

/-- An op in a block, of whatever type. -/
structure C6 (w : World) (B : Nat) (o d s f i z : Int) : Prop where
  c0 : w.cell? ⟨B, 0, none⟩ = some (.int .i64 o)
  c1 : w.cell? ⟨B, 1, none⟩ = some (.int .i64 d)
  c2 : w.cell? ⟨B, 2, none⟩ = some (.int .i64 s)
  c3 : w.cell? ⟨B, 3, none⟩ = some (.int .i64 f)
  c4 : w.cell? ⟨B, 4, none⟩ = some (.int .i64 i)
  c5 : w.cell? ⟨B, 5, none⟩ = some (.int .i64 z)
  lt : B < w.heap.size
theorem C6.new (w : World) (o d s f i z : Int) (t : TypeId) : C6 (w.alloc (.cells #[.int .i64 o, .int .i64 d, .int .i64 s, .int .i64 f, .int .i64 i, .int .i64 z] t)) w.heap.size o d s f i z := by
  constructor <;> simp [go_sem]
theorem C6.bel {w w' : World} {B : Nat} {o d s f i z : Int} (h : C6 w B o d s f i z) (hb : Below w.heap.size w w') : C6 w' B o d s f i z :=
  ⟨(hb.cell h.lt).trans h.c0, (hb.cell h.lt).trans h.c1, (hb.cell h.lt).trans h.c2, (hb.cell h.lt).trans h.c3, (hb.cell h.lt).trans h.c4, (hb.cell h.lt).trans h.c5, Nat.lt_of_lt_of_le h.lt hb.size⟩

end Go.Proofs.YtbbecofgmodfiaaGreatDoor.G
