/- The words of a line, and what they read as. -/
import Derived.Test.YtbbecofgmodfiaaDoorZR0
import Derived.Test.YtbbecofgmodfiaaDoorNK
namespace Go.Proofs.YtbbecofgmodfiaaDoor
open Go.RowKit
set_option linter.unusedVariables false
set_option linter.unusedSimpArgs false

structure LW (on z : Nat) (d s f i : Int) (ps : List UInt8) (S : ByteArray) : Prop where
  hon1 : 1 ≤ on
  hon2 : on ≤ 20
  hz : z ≤ 4
  hfit : sizeFitsB (on : Int) (z : Int) = true
  hd0 : 0 ≤ d
  hd1 : d ≤ 10
  hs0 : -1 ≤ s
  hs1 : s ≤ 10
  hf0 : -128 ≤ f
  hf1 : f ≤ 127
  hi0 : 0 ≤ i
  hi1 : i ≤ 4294967295
  hpl : ps.length ≤ 3
  hall : ∀ p ∈ ps, p = 100 ∨ p = 120 ∨ p = 111 ∨ p = 99
  hps : partsS (on : Int) = ⟨ps.toArray⟩
  hS : S = joinW (firstS on z :: ps.map (wordP d s f i))
  hsz : S.size ≤ 1000
  h99 : (99 : UInt8) ∈ ps → 1 ≤ i ∧ i ≤ 6
  hxs : 0 ≤ s → i = 0
  hput : linePutS (on : Int) d s f i (z : Int) = S
  g1 : (100 : UInt8) ∉ ps → d = 0
  g2 : (120 : UInt8) ∉ ps → s = -1
  g3 : (111 : UInt8) ∉ ps → f = 0
  hok : sokB (on : Int) d s f i (z : Int) = true
  g4 : (120 : UInt8) ∉ ps → (99 : UInt8) ∉ ps → i = 0
theorem line_words (o d s f i z : Int) (hs : sokB o d s f i z = true) : ∃ (on zn : Nat) (ps : List UInt8), o = (on : Int) ∧ z = (zn : Int) ∧ LW on zn d s f i ps (lineS o d s f i z) := by
  have HP : linePutS o d s f i z = lineS o d s f i z := by unfold linePutS; rw [hs]; rfl
  have h := hs
  simp only [sokB, Bool.and_eq_true] at h
  obtain ⟨⟨⟨⟨hd, hs'⟩, hf⟩, hi⟩, hb⟩ := h
  have h1 : 0 ≤ d ∧ d ≤ 10 := by simpa [inB] using hd
  have h2 : -1 ≤ s ∧ s ≤ 10 := by simpa [inB] using hs'
  have h3 : -128 ≤ f ∧ f ≤ 127 := by simpa [inB] using hf
  have h4 : 0 ≤ i ∧ i ≤ 4294967295 := by simpa [inB] using hi
  have zd := decI_size (n := d) (by omega) (by omega)
  have zs := decI_size (n := s) (by omega) (by omega)
  have zf := decI_size (n := f) (by omega) (by omega)
  have zi := decI_size (n := i) (by omega) (by omega)
  have zr := regI_size h2.1 h2.2 h4.1 h4.2
  have hfst : ∀ k : Nat, ¬ (k = 17 ∨ k = 18) → firstS k 0 = wordsL.getD k ⟨#[]⟩ := fun k hk => by
    unfold firstS
    rw [if_neg]
    simp [reachesB, isB]
    omega
  unfold bareB at hb
  cases hA : inB o 1 11
  · cases hJ : inB o 12 15
    · rw [hA, hJ] at hb
      simp only [Bool.false_eq_true, if_false] at hb
      by_cases e16 : o = 16
      · subst e16
        simp [isB] at hb
        obtain ⟨⟨⟨rfl, rfl⟩, rfl⟩, rfl⟩ := hb
        have hl : lineS 16 0 (-1) f 0 0 = joinW (firstS 16 0 :: [111].map (wordP 0 (-1) f 0)) := by
          rw [hfst 16 (by decide)]
          simp only [lineS, hA, hJ, ByteArray.append_assoc]; rfl
        have hz : (lineS 16 0 (-1) f 0 0).size ≤ 1000 := by
          have := word_size 16
          rw [hl, hfst 16 (by decide)]
          show (wordsL.getD 16 ⟨#[]⟩ ++ (SP_ ++ decI f)).size ≤ 1000
          simp only [ByteArray.size_append, SP_size]
          omega
        exact ⟨16, 0, [111], rfl, rfl, ⟨(by omega), (by omega), (by omega), (by decide), h1.1, h1.2, h2.1, h2.2, h3.1, h3.2, h4.1, h4.2, (by decide), (by decide), (by decide), hl, hz, (by simp), (by simp), HP, (by simp), (by simp), (by simp), hs, (by simp)⟩⟩
      by_cases e17 : o = 17
      · subst e17
        have hz : (z = 1 ∨ z = 2 ∨ z = 4) ∧ 0 ≤ s ∧ i = 0 := by simp [isB] at hb; omega
        obtain ⟨hz, hs0, rfl⟩ := hz
        obtain ⟨n, rfl⟩ : ∃ n : Nat, z = n := ⟨z.toNat, by omega⟩
        have hr : regI s 0 = ⟨#[114]⟩ ++ decI s := by unfold regI; rw [if_pos hs0]
        have hl : lineS 17 d s f 0 (n : Int) = joinW (firstS 17 n :: [100, 120, 111].map (wordP d s f 0)) := by
          show _ = (wordsL.getD 17 ⟨#[]⟩ ++ decI (n : Int)) ++ (SP_ ++ ((⟨#[114]⟩ ++ decI d) ++ (SP_ ++ (regI s 0 ++ (SP_ ++ decI f)))))
          simp only [lineS, hA, hJ, ByteArray.append_assoc, srp, hr]; rfl
        have zz := decI_size (n := (n : Int)) (by omega) (by omega)
        have hsz : (lineS 17 d s f 0 (n : Int)).size ≤ 1000 := by
          have := word_size 17
          rw [hl]
          show ((wordsL.getD 17 ⟨#[]⟩ ++ decI (n : Int)) ++ (SP_ ++ ((⟨#[114]⟩ ++ decI d) ++ (SP_ ++ (regI s 0 ++ (SP_ ++ decI f)))))).size ≤ 1000
          simp only [ByteArray.size_append, SP_size, R_size]
          omega
        exact ⟨17, n, [100, 120, 111], rfl, rfl, ⟨(by omega), (by omega), (by omega), (by rw [fits_eq]; unfold fitsN; simp; omega), h1.1, h1.2, h2.1, h2.2, h3.1, h3.2, h4.1, h4.2, (by decide), (by decide), (by decide), hl, hsz, (by simp), (fun _ => rfl), HP, (by simp), (by simp), (by simp), hs, (by simp)⟩⟩
      by_cases e18 : o = 18
      · subst e18
        have hz : (z = 1 ∨ z = 2 ∨ z = 4) ∧ (0 ≤ s → i = 0) := by simp [isB] at hb; omega
        obtain ⟨hz, hsi⟩ := hz
        obtain ⟨n, rfl⟩ : ∃ n : Nat, z = n := ⟨z.toNat, by omega⟩
        have hl : lineS 18 d s f i (n : Int) = joinW (firstS 18 n :: [100, 111, 120].map (wordP d s f i)) := by
          show _ = (wordsL.getD 18 ⟨#[]⟩ ++ decI (n : Int)) ++ (SP_ ++ ((⟨#[114]⟩ ++ decI d) ++ (SP_ ++ (decI f ++ (SP_ ++ regI s i)))))
          simp only [lineS, hA, hJ, ByteArray.append_assoc, srp]; rfl
        have zz := decI_size (n := (n : Int)) (by omega) (by omega)
        have hsz : (lineS 18 d s f i (n : Int)).size ≤ 1000 := by
          have := word_size 18
          rw [hl]
          show ((wordsL.getD 18 ⟨#[]⟩ ++ decI (n : Int)) ++ (SP_ ++ ((⟨#[114]⟩ ++ decI d) ++ (SP_ ++ (decI f ++ (SP_ ++ regI s i)))))).size ≤ 1000
          simp only [ByteArray.size_append, SP_size, R_size]
          omega
        exact ⟨18, n, [100, 111, 120], rfl, rfl, ⟨(by omega), (by omega), (by omega), (by rw [fits_eq]; unfold fitsN; simp; omega), h1.1, h1.2, h2.1, h2.2, h3.1, h3.2, h4.1, h4.2, (by decide), (by decide), (by decide), hl, hsz, (by simp), hsi, HP, (by simp), (by simp), (by simp), hs, (by simp)⟩⟩
      by_cases e19 : o = 19
      · subst e19
        have hz : 1 ≤ i ∧ i ≤ 6 ∧ d = 0 ∧ s = -1 ∧ f = 0 ∧ z = 0 := by simp [isB, inB] at hb; omega
        obtain ⟨hi1, hi6, rfl, rfl, rfl, rfl⟩ := hz
        have hl : lineS 19 0 (-1) 0 i 0 = joinW (firstS 19 0 :: [99].map (wordP 0 (-1) 0 i)) := by
          rw [hfst 19 (by decide)]
          simp only [lineS, hA, hJ, ByteArray.append_assoc]; rfl
        have hsz : (lineS 19 0 (-1) 0 i 0).size ≤ 1000 := by
          have := word_size 19
          have hc := call_size i.toNat
          rw [hl, hfst 19 (by decide)]
          show (wordsL.getD 19 ⟨#[]⟩ ++ (SP_ ++ callsL.getD i.toNat ⟨#[]⟩)).size ≤ 1000
          simp only [ByteArray.size_append, SP_size]
          omega
        exact ⟨19, 0, [99], rfl, rfl, ⟨(by omega), (by omega), (by omega), (by decide), h1.1, h1.2, h2.1, h2.2, h3.1, h3.2, h4.1, h4.2, (by decide), (by decide), (by decide), hl, hsz, (fun _ => ⟨hi1, hi6⟩), (fun h => absurd h (by decide)), HP, (by simp), (by simp), (by simp), hs, (by simp)⟩⟩
      have e20 : o = 20 ∧ d = 0 ∧ s = -1 ∧ f = 0 ∧ i = 0 ∧ z = 0 := by simp [isB, e16, e17, e18, e19] at hb; omega
      obtain ⟨rfl, rfl, rfl, rfl, rfl, rfl⟩ := e20
      have hl : lineS 20 0 (-1) 0 0 0 = joinW (firstS 20 0 :: [].map (wordP 0 (-1) 0 0)) := by
        rw [hfst 20 (by decide)]
        simp only [lineS, hA, hJ]; rfl
      have hsz : (lineS 20 0 (-1) 0 0 0).size ≤ 1000 := by
        have := word_size 20
        rw [hl, hfst 20 (by decide)]
        show (wordsL.getD 20 ⟨#[]⟩).size ≤ 1000
        omega
      exact ⟨20, 0, [], rfl, rfl, ⟨(by omega), (by omega), (by omega), (by decide), h1.1, h1.2, h2.1, h2.2, h3.1, h3.2, h4.1, h4.2, (by decide), (by decide), (by decide), hl, hsz, (by simp), (by simp), HP, (by simp), (by simp), (by simp), hs, (by simp)⟩⟩
    · have ho : 12 ≤ o ∧ o ≤ 15 := by simpa [inB] using hJ
      rw [hA, hJ] at hb
      have hz : z = 0 ∧ (0 ≤ s → i = 0) := by simp [isB] at hb; omega
      obtain ⟨rfl, hsi⟩ := hz
      obtain ⟨n, rfl⟩ : ∃ n : Nat, o = n := ⟨o.toNat, by omega⟩
      have hl : lineS (n : Int) d s f i 0 = joinW (firstS n 0 :: [100, 120, 111].map (wordP d s f i)) := by
        rw [hfst n (by omega)]
        show _ = wordsL.getD n ⟨#[]⟩ ++ (SP_ ++ ((⟨#[114]⟩ ++ decI d) ++ (SP_ ++ (regI s i ++ (SP_ ++ decI f)))))
        simp only [lineS, hA, hJ, ByteArray.append_assoc, srp, Int.toNat_natCast]; rfl
      have hsz : (lineS (n : Int) d s f i 0).size ≤ 1000 := by
        have := word_size n
        rw [hl, hfst n (by omega)]
        show (wordsL.getD n ⟨#[]⟩ ++ (SP_ ++ ((⟨#[114]⟩ ++ decI d) ++ (SP_ ++ (regI s i ++ (SP_ ++ decI f)))))).size ≤ 1000
        simp only [ByteArray.size_append, SP_size, R_size]
        omega
      exact ⟨n, 0, [100, 120, 111], rfl, rfl, ⟨(by omega), (by omega), (by omega), (by rw [fits_eq]; unfold fitsN; rw [if_neg (by omega)]; rfl), h1.1, h1.2, h2.1, h2.2, h3.1, h3.2, h4.1, h4.2, (by decide), (by decide), (by simp [partsS, hA, hJ]), hl, hsz, (by simp), hsi, HP, (by simp), (by simp), (by simp), hs, (by simp)⟩⟩
  · have ho : 1 ≤ o ∧ o ≤ 11 := by simpa [inB] using hA
    rw [hA] at hb
    have hz : f = 0 ∧ z = 0 ∧ (0 ≤ s → i = 0) := by simp [isB] at hb; omega
    obtain ⟨rfl, rfl, hsi⟩ := hz
    obtain ⟨n, rfl⟩ : ∃ n : Nat, o = n := ⟨o.toNat, by omega⟩
    have hl : lineS (n : Int) d s 0 i 0 = joinW (firstS n 0 :: [100, 120].map (wordP d s 0 i)) := by
      rw [hfst n (by omega)]
      show _ = wordsL.getD n ⟨#[]⟩ ++ (SP_ ++ ((⟨#[114]⟩ ++ decI d) ++ (SP_ ++ regI s i)))
      simp only [lineS, hA, ByteArray.append_assoc, srp, Int.toNat_natCast]; rfl
    have hsz : (lineS (n : Int) d s 0 i 0).size ≤ 1000 := by
      have := word_size n
      rw [hl, hfst n (by omega)]
      show (wordsL.getD n ⟨#[]⟩ ++ (SP_ ++ ((⟨#[114]⟩ ++ decI d) ++ (SP_ ++ regI s i)))).size ≤ 1000
      simp only [ByteArray.size_append, SP_size, R_size]
      omega
    exact ⟨n, 0, [100, 120], rfl, rfl, ⟨(by omega), (by omega), (by omega), (by rw [fits_eq]; unfold fitsN; rw [if_neg (by omega)]; rfl), h1.1, h1.2, h2.1, h2.2, h3.1, h3.2, h4.1, h4.2, (by decide), (by decide), (by simp [partsS, hA]), hl, hsz, (by simp), hsi, HP, (by simp), (by simp), (by simp), hs, (by simp)⟩⟩

theorem word_inj : ∀ n, n < 21 → ∀ m, m < 21 → wordsL.getD n ⟨#[]⟩ = wordsL.getD m ⟨#[]⟩ → n = m := by decide +kernel
theorem decI_nat (n : Nat) : decI (n : Int) = decS n := by unfold decI; rw [if_neg (by omega), Int.toNat_natCast]
theorem decI_pos {n : Int} (h : 0 ≤ n) : decI n = decS n.toNat := by unfold decI; rw [if_neg (by omega)]
theorem find_word {k : Nat} {v : Int} (hk : k < 21) (h : FindIs wordsL (wordsL.getD k ⟨#[]⟩) v) : v = k := by
  rcases h with ⟨_, h⟩ | ⟨m, hm, rfl, h⟩
  · exact absurd rfl (h k hk)
  · rw [word_inj m hm k hk h]
theorem find_call {i v : Int} (h1 : 1 ≤ i) (h2 : i ≤ 6) (h : FindIs callsL (callsL.getD i.toNat ⟨#[]⟩) v) : v = i := by
  rcases h with ⟨_, h⟩ | ⟨m, hm, rfl, h⟩
  · exact absurd rfl (h i.toNat (show _ < 7 by omega))
  · have := call_inj m hm i.toNat (by omega) h
    omega
theorem reg_of_d {d d' b : Int} (h0 : 0 ≤ d) (h1 : d ≤ 10) (h : RegIs (⟨#[114]⟩ ++ decI d) d' b) : d' = d := by
  have := (h.1 d.toNat (by omega) (by rw [decI_pos h0])).1
  omega
theorem reg_of_x {s i s' i' : Int} (hs0 : -1 ≤ s) (hs1 : s ≤ 10) (hi0 : 0 ≤ i) (hi1 : i ≤ 4294967295) (hxs : 0 ≤ s → i = 0) (h : RegIs (regI s i) s' i') : s' = s ∧ i' = i := by
  unfold regI at h
  by_cases hs : 0 ≤ s
  · rw [if_pos hs, decI_pos hs] at h
    have := h.1 s.toNat (by omega) rfl
    have := hxs hs
    omega
  · rw [if_neg hs, decI_pos hi0] at h
    have := h.2 i.toNat (by omega) rfl
    omega
theorem sig_of {f f' : Int} (h0 : -128 ≤ f) (h1 : f ≤ 127) (h : SigIs (decI f) f') : f' = f := h f (by omega) (by omega) rfl
theorem ps_of {ps qs : List UInt8} {x : ByteArray} (h : x = ⟨ps.toArray⟩) (h2 : x = ⟨qs.toArray⟩) : ps = qs := by
  rw [h2] at h
  have := congrArg (fun y : ByteArray => y.data.toList) h
  simpa using this.symm
theorem firstS_r {k z : Nat} (h : k = 17 ∨ k = 18) : firstS k z = wordsL.getD k ⟨#[]⟩ ++ decS z := by
  rcases h with rfl | rfl
  · unfold firstS; rw [if_pos (by decide), decI_nat]
  · unfold firstS; rw [if_pos (by decide), decI_nat]
theorem firstS_n {k z : Nat} (h : ¬ (k = 17 ∨ k = 18)) : firstS k z = wordsL.getD k ⟨#[]⟩ := by
  unfold firstS
  rw [if_neg]
  simp [reachesB, isB]
  omega
def LD_ : ByteArray := ⟨#[108, 111, 97, 100]⟩
def SD_ : ByteArray := ⟨#[115, 116, 111, 114, 101]⟩
def PW (on zn : Nat) (n : Nat) (o z : Int) : Prop := ((on = 17 ∨ on = 18) → zn < n) → o = on ∧ z = zn
theorem fits_r {on zn : Nat} (h : on = 17 ∨ on = 18) (hf : sizeFitsB (on : Int) (zn : Int) = true) : zn = 1 ∨ zn = 2 ∨ zn = 4 := by
  rw [fits_eq] at hf
  unfold fitsN at hf
  rw [if_pos h] at hf
  simpa [or_assoc] using hf
theorem fits_n {on zn : Nat} (h : ¬ (on = 17 ∨ on = 18)) (hf : sizeFitsB (on : Int) (zn : Int) = true) : zn = 0 := by
  rw [fits_eq] at hf
  unfold fitsN at hf
  rw [if_neg h] at hf
  simpa using hf
theorem ext_front (a : ByteArray) (n : Nat) (h : n < 10) : (a ++ decS n).extract 0 ((a ++ decS n).size - 1) = a := by
  have h1 : (decS n).size = 1 := by rw [decS_lt h]; exact strOfNums_size' _
  have e : (a ++ decS n).size - 1 = a.size := by rw [ByteArray.size_append]; omega
  rw [e]
  apply ByteArray.ext
  apply Array.toList_inj.1
  have hl : a.data.toList.length = a.size := Array.length_toList
  rw [ext_list, ByteArray.data_append, Array.toList_append, List.drop_zero, ← hl, List.take_left]
theorem pw0 {on zn : Nat} (h1 : 1 ≤ on) (h2 : on ≤ 20) (hf : sizeFitsB (on : Int) (zn : Int) = true) (v : Int) (h : FindIs wordsL (firstS on zn) v) : PW on zn 1 v 0 := by
  intro hr
  by_cases hc : on = 17 ∨ on = 18
  · have := fits_r hc hf
    have := hr hc
    omega
  · rw [firstS_n hc] at h
    have := fits_n hc hf
    exact ⟨find_word (by omega) h, by omega⟩
theorem pwn {on zn : Nat} (hf : sizeFitsB (on : Int) (zn : Int) = true) (n : Nat) (o z : Int) (hn : n = 1 ∨ n = 2 ∨ n = 4) (h : PW on zn n o z) (hl : firstS on zn ≠ LD_ ++ decS n) (hs : firstS on zn ≠ SD_ ++ decS n) : PW on zn (n * 2) o z := by
  intro hr
  refine h fun hc => ?_
  have h1 := fits_r hc hf
  have h2 := hr hc
  rcases Nat.lt_or_ge zn n with h3 | h3
  · exact h3
  · obtain rfl : zn = n := by omega
    rw [firstS_r hc] at hl hs
    rcases hc with rfl | rfl
    · exact absurd rfl hl
    · exact absurd rfl hs
theorem pwy {on zn : Nat} (h1 : 1 ≤ on) (h2 : on ≤ 20) (hz : zn ≤ 4) (hf : sizeFitsB (on : Int) (zn : Int) = true) (n : Nat) (o z v : Int) (hn : n = 1 ∨ n = 2 ∨ n = 4) (h : PW on zn n o z) (hl : firstS on zn = LD_ ++ decS n ∨ firstS on zn = SD_ ++ decS n) (hv : FindIs wordsL ((firstS on zn).extract 0 ((firstS on zn).size - 1)) v) : PW on zn (n * 2) v n := by
  have key : ∀ k, (k = 17 ∨ k = 18) → firstS on zn = firstS k n → PW on zn (n * 2) v n := by
    intro k hk e
    have hfk : sizeFitsB (k : Int) (n : Int) = true := by
      rw [fits_eq]; unfold fitsN; rw [if_pos hk]; rcases hn with rfl | rfl | rfl <;> rfl
    obtain ⟨rfl, rfl⟩ := first_inj h1 h2 hz hf (by omega) (by omega) (by omega) hfk e
    rw [firstS_r hk, ext_front _ _ (by omega)] at hv
    exact fun _ => ⟨find_word (by omega) hv, rfl⟩
  rcases hl with e | e
  · exact key 17 (.inl rfl) (by rw [e, firstS_r (.inl rfl)]; rfl)
  · exact key 18 (.inr rfl) (by rw [e, firstS_r (.inr rfl)]; rfl)
theorem rest_of {on zn : Nat} {d s f i d' s' f' i' : Int} {ps : List UInt8} {S : ByteArray} (h : LW on zn d s f i ps S) (hr : Rest (firstS on zn :: ps.map (wordP d s f i)) (on : Int) d' s' f' i') : d' = d ∧ s' = s ∧ f' = f ∧ i' = i := by
  obtain ⟨r1, r2, r3, r4, r5, r6, r7⟩ := hr
  have hd := @reg_of_d d d'
  have hx := @reg_of_x s i s' i' h.hs0 h.hs1 h.hi0 h.hi1 h.hxs
  have hsg := @sig_of f f' h.hf0 h.hf1
  by_cases hA : inB (on : Int) 1 11 = true
  · obtain rfl := ps_of h.hps (show partsS (on : Int) = ⟨([100, 120] : List UInt8).toArray⟩ by unfold partsS; rw [if_pos hA])
    obtain ⟨⟨b, e1⟩, e2, e3⟩ := r1 hA rfl
    have h1 := hd h.hd0 h.hd1 e1
    have h2 := hx e2
    have := h.g3 (by decide)
    omega
  by_cases hJ : inB (on : Int) 12 15 = true
  · obtain rfl := ps_of h.hps (show partsS (on : Int) = ⟨([100, 120, 111] : List UInt8).toArray⟩ by unfold partsS; rw [if_neg hA, hJ]; rfl)
    obtain ⟨⟨b, e1⟩, e2, e3⟩ := r2 hJ rfl
    have h1 := hd h.hd0 h.hd1 e1
    have h2 := hx e2
    have h3 := hsg e3
    omega
  have hon : on = 16 ∨ on = 17 ∨ on = 18 ∨ on = 19 ∨ on = 20 := by
    have := h.hon1
    have := h.hon2
    simp [inB] at hA hJ
    omega
  rcases hon with rfl | rfl | rfl | rfl | rfl
  · obtain rfl := ps_of h.hps (show partsS 16 = ⟨([111] : List UInt8).toArray⟩ by decide)
    obtain ⟨e1, e2, e3, e4⟩ := r3 rfl rfl
    have h3 := hsg e3
    have := h.g1 (by decide)
    have := h.g2 (by decide)
    have := h.g4 (by decide) (by decide)
    omega
  · obtain rfl := ps_of h.hps (show partsS 17 = ⟨([100, 120, 111] : List UInt8).toArray⟩ by decide)
    obtain ⟨⟨b, e1⟩, ⟨b2, e2⟩, e3, e4⟩ := r4 rfl rfl
    have hk := h.hok
    have hk2 : 0 ≤ s ∧ i = 0 := by simp [sokB, bareB, isB, inB] at hk; omega
    have h1 := hd h.hd0 h.hd1 e1
    have h2 := @reg_of_x s i s' b2 h.hs0 h.hs1 h.hi0 h.hi1 h.hxs e2
    have h3 := hsg e3
    omega
  · obtain rfl := ps_of h.hps (show partsS 18 = ⟨([100, 111, 120] : List UInt8).toArray⟩ by decide)
    obtain ⟨⟨b, e1⟩, e2, e3⟩ := r5 rfl rfl
    have h1 := hd h.hd0 h.hd1 e1
    have h2 := hx e3
    have h3 := hsg e2
    omega
  · obtain rfl := ps_of h.hps (show partsS 19 = ⟨([99] : List UInt8).toArray⟩ by decide)
    obtain ⟨e1, e2, e3, e4⟩ := r6 rfl rfl
    have h9 := h.h99 (by decide)
    have h4 := find_call h9.1 h9.2 e4
    have := h.g1 (by decide)
    have := h.g2 (by decide)
    have := h.g3 (by decide)
    omega
  · obtain rfl := ps_of h.hps (show partsS 20 = ⟨([] : List UInt8).toArray⟩ by decide)
    obtain ⟨e1, e2, e3, e4⟩ := r7 rfl
    have := h.g1 (by decide)
    have := h.g2 (by decide)
    have := h.g3 (by decide)
    have := h.g4 (by decide) (by decide)
    omega
end Go.Proofs.YtbbecofgmodfiaaDoor
