/- A line of an op is read back by the program. -/
import Derived.Test.YtbbecofgmodfiaaDoorNI
namespace Go.Proofs.YtbbecofgmodfiaaDoor
open Go.RowKit
set_option linter.unusedVariables false
set_option linter.unusedSimpArgs false

theorem regI_size {s i : Int} (hs0 : -1 ≤ s) (hs1 : s ≤ 10) (hi0 : 0 ≤ i) (hi1 : i ≤ 4294967295) : (regI s i).size ≤ 21 := by
  unfold regI
  split
  · have := decI_size (n := s) (by omega) (by omega)
    rw [ByteArray.size_append]; show 1 + _ ≤ _; omega
  · have := decI_size (n := i) (by omega) (by omega)
    omega
theorem SP_size : SP_.size = 1 := rfl
theorem SR_size : SR_.size = 2 := rfl
theorem R_size : (⟨#[114]⟩ : ByteArray).size = 1 := rfl

theorem getLine (o d s f i z : Int) (w : World) (hT : TabsG w) (hs : sokB o d s f i z = true) :
    Calls Tryd.prog 9 #[.string (lineS o d s f i z)] w fun e w' => e = .returned (.tuple #[.agg #[.int .i64 o, .int .i64 d, .int .i64 s, .int .i64 f, .int .i64 i, .int .i64 z], .bool true]) ∧ Below w.heap.size w w' := by
  have HP : linePutS o d s f i z = lineS o d s f i z := by unfold linePutS; rw [hs]; rfl
  have h := hs
  simp only [sokB, Bool.and_eq_true] at h
  obtain ⟨⟨⟨⟨hd, hs'⟩, hf⟩, hi⟩, hb⟩ := h
  have h1 : 0 ≤ d ∧ d ≤ 10 := by simpa [inB] using hd
  have h2 : -1 ≤ s ∧ s ≤ 10 := by simpa [inB] using hs'
  have h3 : -128 ≤ f ∧ f ≤ 127 := by simpa [inB] using hf
  have h4 : 0 ≤ i ∧ i ≤ 4294967295 := by simpa [inB] using hi
  have zd := decI_size (n := d) (by omega) (by omega)
  have zs := decI_size (n := s) (by omega) (by omega)
  have zf := decI_size (n := f) (by omega) (by omega)
  have zi := decI_size (n := i) (by omega) (by omega)
  have zr := regI_size h2.1 h2.2 h4.1 h4.2
  have hfst : ∀ k : Nat, ¬ (k = 17 ∨ k = 18) → firstS k 0 = wordsL.getD k ⟨#[]⟩ := fun k hk => by
    unfold firstS
    rw [if_neg]
    simp [reachesB, isB]
    omega
  unfold bareB at hb
  cases hA : inB o 1 11
  · cases hJ : inB o 12 15
    · rw [hA, hJ] at hb
      simp only [Bool.false_eq_true, if_false] at hb
      by_cases e16 : o = 16
      · subst e16
        simp [isB] at hb
        obtain ⟨⟨⟨rfl, rfl⟩, rfl⟩, rfl⟩ := hb
        have hl : lineS 16 0 (-1) f 0 0 = joinW (firstS 16 0 :: [111].map (wordP 0 (-1) f 0)) := by
          rw [hfst 16 (by decide)]
          simp only [lineS, hA, hJ, ByteArray.append_assoc]; rfl
        have hz : (lineS 16 0 (-1) f 0 0).size ≤ 1000 := by
          have := word_size 16
          rw [hl, hfst 16 (by decide)]
          show (wordsL.getD 16 ⟨#[]⟩ ++ (SP_ ++ decI f)).size ≤ 1000
          simp only [ByteArray.size_append, SP_size]
          omega
        exact getA 16 0 0 (-1) f 0 [111] _ w hT (by omega) (by omega) (by omega) (by decide) h1.1 h1.2 h2.1 h2.2 h3.1 h3.2 h4.1 h4.2 (by decide) (by decide) (by decide) hl hz (by simp) (by simp) HP (by simp) (by simp) (by simp) (by simp)
      by_cases e17 : o = 17
      · subst e17
        have hz : (z = 1 ∨ z = 2 ∨ z = 4) ∧ 0 ≤ s ∧ i = 0 := by simp [isB] at hb; omega
        obtain ⟨hz, hs0, rfl⟩ := hz
        obtain ⟨n, rfl⟩ : ∃ n : Nat, z = n := ⟨z.toNat, by omega⟩
        have hr : regI s 0 = ⟨#[114]⟩ ++ decI s := by unfold regI; rw [if_pos hs0]
        have hl : lineS 17 d s f 0 (n : Int) = joinW (firstS 17 n :: [100, 120, 111].map (wordP d s f 0)) := by
          show _ = (wordsL.getD 17 ⟨#[]⟩ ++ decI (n : Int)) ++ (SP_ ++ ((⟨#[114]⟩ ++ decI d) ++ (SP_ ++ (regI s 0 ++ (SP_ ++ decI f)))))
          simp only [lineS, hA, hJ, ByteArray.append_assoc, srp, hr]; rfl
        have zz := decI_size (n := (n : Int)) (by omega) (by omega)
        have hsz : (lineS 17 d s f 0 (n : Int)).size ≤ 1000 := by
          have := word_size 17
          rw [hl]
          show ((wordsL.getD 17 ⟨#[]⟩ ++ decI (n : Int)) ++ (SP_ ++ ((⟨#[114]⟩ ++ decI d) ++ (SP_ ++ (regI s 0 ++ (SP_ ++ decI f)))))).size ≤ 1000
          simp only [ByteArray.size_append, SP_size, R_size]
          omega
        exact getA 17 n d s f 0 [100, 120, 111] _ w hT (by omega) (by omega) (by omega) (by rw [fits_eq]; unfold fitsN; simp; omega) h1.1 h1.2 h2.1 h2.2 h3.1 h3.2 h4.1 h4.2 (by decide) (by decide) (by decide) hl hsz (by simp) (fun _ => rfl) HP (by simp) (by simp) (by simp) (by simp)
      by_cases e18 : o = 18
      · subst e18
        have hz : (z = 1 ∨ z = 2 ∨ z = 4) ∧ (0 ≤ s → i = 0) := by simp [isB] at hb; omega
        obtain ⟨hz, hsi⟩ := hz
        obtain ⟨n, rfl⟩ : ∃ n : Nat, z = n := ⟨z.toNat, by omega⟩
        have hl : lineS 18 d s f i (n : Int) = joinW (firstS 18 n :: [100, 111, 120].map (wordP d s f i)) := by
          show _ = (wordsL.getD 18 ⟨#[]⟩ ++ decI (n : Int)) ++ (SP_ ++ ((⟨#[114]⟩ ++ decI d) ++ (SP_ ++ (decI f ++ (SP_ ++ regI s i)))))
          simp only [lineS, hA, hJ, ByteArray.append_assoc, srp]; rfl
        have zz := decI_size (n := (n : Int)) (by omega) (by omega)
        have hsz : (lineS 18 d s f i (n : Int)).size ≤ 1000 := by
          have := word_size 18
          rw [hl]
          show ((wordsL.getD 18 ⟨#[]⟩ ++ decI (n : Int)) ++ (SP_ ++ ((⟨#[114]⟩ ++ decI d) ++ (SP_ ++ (decI f ++ (SP_ ++ regI s i)))))).size ≤ 1000
          simp only [ByteArray.size_append, SP_size, R_size]
          omega
        exact getA 18 n d s f i [100, 111, 120] _ w hT (by omega) (by omega) (by omega) (by rw [fits_eq]; unfold fitsN; simp; omega) h1.1 h1.2 h2.1 h2.2 h3.1 h3.2 h4.1 h4.2 (by decide) (by decide) (by decide) hl hsz (by simp) hsi HP (by simp) (by simp) (by simp) (by simp)
      by_cases e19 : o = 19
      · subst e19
        have hz : 1 ≤ i ∧ i ≤ 6 ∧ d = 0 ∧ s = -1 ∧ f = 0 ∧ z = 0 := by simp [isB, inB] at hb; omega
        obtain ⟨hi1, hi6, rfl, rfl, rfl, rfl⟩ := hz
        have hl : lineS 19 0 (-1) 0 i 0 = joinW (firstS 19 0 :: [99].map (wordP 0 (-1) 0 i)) := by
          rw [hfst 19 (by decide)]
          simp only [lineS, hA, hJ, ByteArray.append_assoc]; rfl
        have hsz : (lineS 19 0 (-1) 0 i 0).size ≤ 1000 := by
          have := word_size 19
          have hc := call_size i.toNat
          rw [hl, hfst 19 (by decide)]
          show (wordsL.getD 19 ⟨#[]⟩ ++ (SP_ ++ callsL.getD i.toNat ⟨#[]⟩)).size ≤ 1000
          simp only [ByteArray.size_append, SP_size]
          omega
        exact getA 19 0 0 (-1) 0 i [99] _ w hT (by omega) (by omega) (by omega) (by decide) h1.1 h1.2 h2.1 h2.2 h3.1 h3.2 h4.1 h4.2 (by decide) (by decide) (by decide) hl hsz (fun _ => ⟨hi1, hi6⟩) (fun h => absurd h (by decide)) HP (by simp) (by simp) (by simp) (by simp)
      have e20 : o = 20 ∧ d = 0 ∧ s = -1 ∧ f = 0 ∧ i = 0 ∧ z = 0 := by simp [isB, e16, e17, e18, e19] at hb; omega
      obtain ⟨rfl, rfl, rfl, rfl, rfl, rfl⟩ := e20
      have hl : lineS 20 0 (-1) 0 0 0 = joinW (firstS 20 0 :: [].map (wordP 0 (-1) 0 0)) := by
        rw [hfst 20 (by decide)]
        simp only [lineS, hA, hJ]; rfl
      have hsz : (lineS 20 0 (-1) 0 0 0).size ≤ 1000 := by
        have := word_size 20
        rw [hl, hfst 20 (by decide)]
        show (wordsL.getD 20 ⟨#[]⟩).size ≤ 1000
        omega
      exact getA 20 0 0 (-1) 0 0 [] _ w hT (by omega) (by omega) (by omega) (by decide) h1.1 h1.2 h2.1 h2.2 h3.1 h3.2 h4.1 h4.2 (by decide) (by decide) (by decide) hl hsz (by simp) (by simp) HP (by simp) (by simp) (by simp) (by simp)
    · have ho : 12 ≤ o ∧ o ≤ 15 := by simpa [inB] using hJ
      rw [hA, hJ] at hb
      have hz : z = 0 ∧ (0 ≤ s → i = 0) := by simp [isB] at hb; omega
      obtain ⟨rfl, hsi⟩ := hz
      obtain ⟨n, rfl⟩ : ∃ n : Nat, o = n := ⟨o.toNat, by omega⟩
      have hl : lineS (n : Int) d s f i 0 = joinW (firstS n 0 :: [100, 120, 111].map (wordP d s f i)) := by
        rw [hfst n (by omega)]
        show _ = wordsL.getD n ⟨#[]⟩ ++ (SP_ ++ ((⟨#[114]⟩ ++ decI d) ++ (SP_ ++ (regI s i ++ (SP_ ++ decI f)))))
        simp only [lineS, hA, hJ, ByteArray.append_assoc, srp, Int.toNat_natCast]; rfl
      have hsz : (lineS (n : Int) d s f i 0).size ≤ 1000 := by
        have := word_size n
        rw [hl, hfst n (by omega)]
        show (wordsL.getD n ⟨#[]⟩ ++ (SP_ ++ ((⟨#[114]⟩ ++ decI d) ++ (SP_ ++ (regI s i ++ (SP_ ++ decI f)))))).size ≤ 1000
        simp only [ByteArray.size_append, SP_size, R_size]
        omega
      exact getA n 0 d s f i [100, 120, 111] _ w hT (by omega) (by omega) (by omega) (by rw [fits_eq]; unfold fitsN; rw [if_neg (by omega)]; rfl) h1.1 h1.2 h2.1 h2.2 h3.1 h3.2 h4.1 h4.2 (by decide) (by decide) (by simp [partsS, hA, hJ]) hl hsz (by simp) hsi HP (by simp) (by simp) (by simp) (by simp)
  · have ho : 1 ≤ o ∧ o ≤ 11 := by simpa [inB] using hA
    rw [hA] at hb
    have hz : f = 0 ∧ z = 0 ∧ (0 ≤ s → i = 0) := by simp [isB] at hb; omega
    obtain ⟨rfl, rfl, hsi⟩ := hz
    obtain ⟨n, rfl⟩ : ∃ n : Nat, o = n := ⟨o.toNat, by omega⟩
    have hl : lineS (n : Int) d s 0 i 0 = joinW (firstS n 0 :: [100, 120].map (wordP d s 0 i)) := by
      rw [hfst n (by omega)]
      show _ = wordsL.getD n ⟨#[]⟩ ++ (SP_ ++ ((⟨#[114]⟩ ++ decI d) ++ (SP_ ++ regI s i)))
      simp only [lineS, hA, ByteArray.append_assoc, srp, Int.toNat_natCast]; rfl
    have hsz : (lineS (n : Int) d s 0 i 0).size ≤ 1000 := by
      have := word_size n
      rw [hl, hfst n (by omega)]
      show (wordsL.getD n ⟨#[]⟩ ++ (SP_ ++ ((⟨#[114]⟩ ++ decI d) ++ (SP_ ++ regI s i)))).size ≤ 1000
      simp only [ByteArray.size_append, SP_size, R_size]
      omega
    exact getA n 0 d s 0 i [100, 120] _ w hT (by omega) (by omega) (by omega) (by rw [fits_eq]; unfold fitsN; rw [if_neg (by omega)]; rfl) h1.1 h1.2 h2.1 h2.2 h3.1 h3.2 h4.1 h4.2 (by decide) (by decide) (by simp [partsS, hA]) hl hsz (by simp) hsi HP (by simp) (by simp) (by simp) (by simp)
end Go.Proofs.YtbbecofgmodfiaaDoor
