/- The walk of the law FnLinePut. -/
import Derived.Test.YtbbecofgmodfiaaGreatDoorKL
import Derived.Test.YtbbecofgmodfiaaGreatDoorNK
namespace Go.Proofs.YtbbecofgmodfiaaGreatDoor
open Go.RowKit
set_option linter.unusedVariables false
set_option linter.unusedSimpArgs false

theorem lineS_ne (o d s f i z : Int) (h : sokB o d s f i z = true) : (G.lineS o d s f i z).toList ≠ [] := by
  have hs : 0 < (G.lineS o d s f i z).size := by
    unfold G.lineS
    have hw0 : ∀ k, k < 21 → 1 ≤ k → 0 < (G.wordsL.getD k ⟨#[]⟩).size := by decide
    have hw : ∀ k, 1 ≤ k → k < 21 → 0 < (G.wordsL.getD k ⟨#[]⟩).size := fun k h1 h2 => hw0 k h2 h1
    simp only [sokB, Bool.and_eq_true] at h
    have hb := h.2
    unfold bareB at hb
    split
    · rename_i hA
      have ho : 1 ≤ o ∧ o ≤ 11 := by simpa [inB] using hA
      have := hw o.toNat (by omega) (by omega)
      simp only [ByteArray.size_append]; omega
    split
    · rename_i hJ
      have ho : 12 ≤ o ∧ o ≤ 15 := by simpa [inB] using hJ
      have := hw o.toNat (by omega) (by omega)
      simp only [ByteArray.size_append]; omega
    split
    · have := hw 16 (by omega) (by omega)
      simp only [ByteArray.size_append]; omega
    split
    · have := hw 17 (by omega) (by omega)
      simp only [ByteArray.size_append]; omega
    split
    · have := hw 18 (by omega) (by omega)
      simp only [ByteArray.size_append]; omega
    split
    · have := hw 19 (by omega) (by omega)
      simp only [ByteArray.size_append]; omega
    · exact hw 20 (by omega) (by omega)
  intro h0
  rw [ByteArray.toList_eq] at h0
  have e : (G.lineS o d s f i z).data.toList.length = (G.lineS o d s f i z).size := Array.length_toList
  rw [h0] at e
  simp at e
  omega

set_option maxRecDepth 100000 in
set_option maxHeartbeats 4000000 in
theorem law_fnLinePut (w : World) (a : Option Addr) (len cap : Nat) (hc : len ≤ cap) (hs : Src w a len) (hl : cap < 2 ^ 63) (hT : G.TabsG w) :
    Calls Tryz.prog 3 #[.slice a len cap] w fun e w' => e = .returned (.bool true) ∧ Below w.heap.size w w' := by
  have HS := hid hs
  have HT := hid hT
  clear hs hT
  go_enter Tryz.func3, Tryz.ntmps3
  go_wp2_with fail
  · go_ret
    exact ⟨rfl, Below.refl _ _⟩
  refine (drawLinePut_w w a len cap hc HS.out hl).mono ?_
  rintro e w1 ⟨⟨o, d, s, f, i, z, rfl⟩, hb1⟩
  have hx : Box6 (w1.alloc (.cells #[.int .i64 o, .int .i64 d, .int .i64 s, .int .i64 f, .int .i64 i, .int .i64 z] 24)) w1.heap.size o d s f i z := World.alloc_heap_new w1 _
  have HX := hid hx
  have HB := hid (hb1.alloc hb1.size (.cells #[.int .i64 o, .int .i64 d, .int .i64 s, .int .i64 f, .int .i64 i, .int .i64 z] 24))
  have lX := hb1.size
  clear hx hb1 HS
  go_wp2_with fail
  generalize w1.alloc (.cells #[.int .i64 o, .int .i64 d, .int .i64 s, .int .i64 f, .int .i64 i, .int .i64 z] 24) = w2 at *
  generalize w1.heap.size = X at *
  refine (G.putI_w o d s f i z _ (HT.out.t.below HB.out)).mono ?_
  rintro e w3 ⟨⟨x, hx, hxe, rfl⟩, b3⟩
  replace HX := hid (HX.out.bel b3)
  replace HB := hid (HB.out.to b3)
  clear b3
  obtain ⟨x0, x1, x2, x3, x4, x5⟩ := Box6.cells HX.out
  have xl := Box6.lt HX.out
  go_wp2_with fail
  clear x0 x1 x2 x3 x4 x5 xl
  refine (G.putS_w o d s f i z _).mono ?_
  rintro e w4 ⟨⟨y, hy, hye, rfl⟩, b4⟩
  replace HX := hid (HX.out.bel b4)
  replace HB := hid (HB.out.to b4)
  clear b4
  obtain rfl : y = x := hye.out.trans hxe.out.symm
  have hne : (y.toList != y.toList) = false := by simp
  obtain ⟨x0, x1, x2, x3, x4, x5⟩ := Box6.cells HX.out
  have xl := Box6.lt HX.out
  cases hok : sokB o d s f i z
  · have HE : Hid (y = ⟨#[]⟩) := hid (by rw [hxe.out]; unfold G.linePutS; rw [hok]; rfl)
    have he : (y.toList == (⟨#[]⟩ : ByteArray).toList) = true := by rw [HE.out]; simp
    have hem : y.toList.isEmpty = true := by rw [HE.out, ByteArray.toList_eq]; rfl
    go_wp2_with fail
    refine (G.putS_w o d s f i z _).mono ?_
    rintro e w5 ⟨⟨x2, hx2, hx2e, rfl⟩, b5⟩
    replace HB := hid (HB.out.to b5)
    clear b5
    obtain rfl : x2 = y := hx2e.out.trans hye.out.symm
    have hq : (x2.toList == x2.toList) = true := by simp
    go_wp2_with fail
    go_ret
    exact ⟨rfl, HB.out⟩
  · have HE : Hid (y = G.lineS o d s f i z) := hid (by rw [hxe.out]; unfold G.linePutS; rw [hok]; rfl)
    have hnn := lineS_ne o d s f i z hok
    rw [← HE.out] at hnn
    have hem : y.toList.isEmpty = false := by cases h : y.toList; exact absurd h hnn; rfl
    clear hnn
    go_wp2_with fail
    have hg := G.getLine o d s f i z w4 (HT.out.below HB.out) hok
    rw [← HE.out] at hg
    refine hg.mono ?_
    rintro e w5 ⟨rfl, b5⟩
    replace HX := hid (HX.out.bel b5)
    replace HB := hid (HB.out.to b5)
    have HB6 := hid (HB.out.alloc HB.out.size (.cells #[.int .i64 o, .int .i64 d, .int .i64 s, .int .i64 f, .int .i64 i, .int .i64 z] 24))
    clear b5 hg x0 x1 x2 x3 x4 x5 xl
    obtain ⟨x0, x1, x2, x3, x4, x5⟩ := Box6.cells HX.out
    have xl := Box6.lt HX.out
    go_wp2_with fail
    go_ret
    exact ⟨rfl, HB6.out⟩
end Go.Proofs.YtbbecofgmodfiaaGreatDoor
