/- Branches: what the parts of both answer, in one form. -/
import Derived.Test.YtcopcajleonndaaQBF1
import Derived.Test.YtcopcajleonndaaQBF2
import Derived.Test.YtcopcajleonndaaQBF3
import Derived.Test.YtcopcajleonndaaQBF4
import Derived.Test.YtcopcajleonndaaQBG
namespace Go.Proofs.Ytcopcajleonndaa
open Go.RowKit
set_option linter.unusedVariables false
set_option linter.unusedSimpArgs false

abbrev rvP (p : Int × Int × Int × Int) : Value := rv p.1 p.2.1 p.2.2.1 p.2.2.2

theorem okB_mod {a b c d : Nat} (A : OkN a b c d) {X Y : Int} (h0 : 0 ≤ X) (h1 : X ≤ Y) (h2 : Y ≤ 4294967295) : okB X Y c d = true := by
  obtain ⟨X, rfl⟩ := Int.eq_ofNat_of_zero_le h0
  obtain ⟨Y, rfl⟩ := Int.eq_ofNat_of_zero_le (show 0 ≤ Y by omega)
  exact okB_of ⟨by omega, by omega, A.b, A.o, A.d⟩
theorem someI_gt {X Y c d : Int} (h : Y < X) : someI X Y c d = false := someI_bad (by simp [okB, inB]; omega)
theorem c_l2SomeI {X Y c d : Int} (h : okB X Y c d = true) (w : World) :
    Calls Try.prog 73 #[rv X Y c d] w fun e w' => e = .returned (.bool (someI X Y c d)) ∧ Below w.heap.size w w' := by
  obtain ⟨L, H, B, O, rfl, rfl, rfl, rfl, k⟩ := ok_nat h
  rw [someI_nat k]
  exact c_l2Some L H B O w k
theorem c_l2TidyI {X Y c d : Int} (h : someI X Y c d = true) (w : World) :
    Calls Try.prog 47 #[rv X Y c d] w fun e w' => e = .returned (rvP (tidyP X Y c d)) ∧ Below w.heap.size w w' := by
  obtain ⟨L, H, B, O, rfl, rfl, rfl, rfl, k, hs⟩ := someI_yes h
  rw [tidyP_yes k hs]
  exact c_l2Tidy L H B O w k
/-- A tidied range has a number just if the range has one. -/
theorem someI_tidy (X Y c d : Int) : someI (tidyP X Y c d).1 (tidyP X Y c d).2.1 (tidyP X Y c d).2.2.1 (tidyP X Y c d).2.2.2 = someI X Y c d := by
  cases h : someI X Y c d
  · rw [tidyP_no h]; exact someI_gt (by decide)
  · obtain ⟨L, H, B, O, rfl, rfl, rfl, rfl, k, hs⟩ := someI_yes h
    rw [tidyP_yes k hs]
    obtain ⟨n, _, hn⟩ := of_some k hs
    show someI (tLo L H B : Nat) (tHi L H B O : Nat) (tB L H B : Nat) (tO L H O : Nat) = true
    rw [someI_nat (tidy_ok k hn)]
    exact some_of (tidy_ok k hn) (tidy_of k hn)

/-! a range without a number -/
def butX (a n : Int) : Int := if a = n then a + 1 else a
def butY (b n : Int) : Int := if b = n then b - 1 else b

theorem but_c (a b c d n : Nat) (A : OkN a b c d) (hn : n ≤ 4294967295) (w : World) :
    Calls Try.prog 74 #[rv a b c d, .int .i64 n] w fun e w' => e = .returned (.tuple #[rvP (tidyP (butX a n) (butY b n) c d), .bool (someI (butX a n) (butY b n) c d)]) ∧ Below w.heap.size w w' := by
  have hle := A.le
  have hhi := A.hi
  by_cases k1 : a = n
  · have e1 : butX a n = (n : Int) + 1 := by rw [butX, if_pos (by omega), k1]
    have g1 : ((a : Int) == (n : Int)) = true := by simp; omega
    by_cases k2 : b = n
    · have e2 : butY b n = (n : Int) - 1 := by rw [butY, if_pos (by omega), k2]
      have g2 : ((b : Int) == (n : Int)) = true := by simp; omega
      have hs : someI ((n : Int) + 1) ((n : Int) - 1) c d = false := someI_gt (by omega)
      rw [e1, e2, hs, tidyP_no hs]
      exact w_But_1_gt a b c d n w (by omega) (by omega) g1 g2 (by omega)
    · have e2 : butY b n = b := by rw [butY, if_neg (by omega)]
      have g2 : ((b : Int) == (n : Int)) = false := by simp; omega
      have hok : okB ((n : Int) + 1) b c d = true := okB_mod A (by omega) (by omega) (by omega)
      rw [e1, e2]
      cases hs : someI ((n : Int) + 1) b c d
      · rw [tidyP_no hs]
        exact w_But_2_none a b c d n w (by omega) (by omega) g1 g2 (by omega) (fun w => by have := c_l2SomeI hok w; rw [hs] at this; exact this)
      · exact w_But_2_yes a b c d n _ _ _ _ w (by omega) (by omega) g1 g2 (by omega) (fun w => by have := c_l2SomeI hok w; rw [hs] at this; exact this) (fun w => c_l2TidyI hs w)
  · have e1 : butX a n = a := by rw [butX, if_neg (by omega)]
    have g1 : ((a : Int) == (n : Int)) = false := by simp; omega
    by_cases k2 : b = n
    · have e2 : butY b n = (n : Int) - 1 := by rw [butY, if_pos (by omega), k2]
      have g2 : ((b : Int) == (n : Int)) = true := by simp; omega
      have hok : okB a ((n : Int) - 1) c d = true := okB_mod A (by omega) (by omega) (by omega)
      rw [e1, e2]
      cases hs : someI a ((n : Int) - 1) c d
      · rw [tidyP_no hs]
        exact w_But_3_none a b c d n w (by omega) (by omega) g1 g2 (by omega) (fun w => by have := c_l2SomeI hok w; rw [hs] at this; exact this)
      · exact w_But_3_yes a b c d n _ _ _ _ w (by omega) (by omega) g1 g2 (by omega) (fun w => by have := c_l2SomeI hok w; rw [hs] at this; exact this) (fun w => c_l2TidyI hs w)
    · have e2 : butY b n = b := by rw [butY, if_neg (by omega)]
      have g2 : ((b : Int) == (n : Int)) = false := by simp; omega
      have hok : okB a b c d = true := okB_of A
      rw [e1, e2]
      cases hs : someI a b c d
      · rw [tidyP_no hs]
        exact w_But_4_none a b c d n w (by omega) (by omega) g1 g2 (by omega) (fun w => by have := c_l2SomeI hok w; rw [hs] at this; exact this)
      · exact w_But_4_yes a b c d n _ _ _ _ w (by omega) (by omega) g1 g2 (by omega) (fun w => by have := c_l2SomeI hok w; rw [hs] at this; exact this) (fun w => c_l2TidyI hs w)

/-- What is left of a range without the number that another one is alone. -/
def apartP (a b c d e f : Int) : Int × Int × Int × Int := if e = f then tidyP (butX a e) (butY b e) c d else (a, b, c, d)
def apartB (a b c d e f : Int) : Bool := someI (apartP a b c d e f).1 (apartP a b c d e f).2.1 (apartP a b c d e f).2.2.1 (apartP a b c d e f).2.2.2

theorem apart_spec (a b c d e f g h : Nat) (A : OkN a b c d) (B : OkN e f g h) (hA : someN a b c d = true) (w : World) :
    Calls Try.prog 59 #[rv a b c d, rv e f g h] w fun ee w' => ee = .returned (.tuple #[rvP (apartP a b c d e f), .bool (apartB a b c d e f)]) ∧ Below w.heap.size w w' := by
  have hle := B.le
  have hhi := B.hi
  by_cases k : e = f
  · have e1 : apartP a b c d e f = tidyP (butX a e) (butY b e) c d := by rw [apartP, if_pos (by omega)]
    rw [apartB, e1, someI_tidy]
    exact w_Apart a b c d e f g h _ _ _ _ _ w (by simp; omega) (fun w => but_c a b c d e A (by omega) w)
  · have e1 : apartP a b c d e f = ((a : Int), (b : Int), (c : Int), (d : Int)) := by rw [apartP, if_neg (by omega)]
    rw [apartB, e1]
    show Calls _ _ _ _ fun ee w' => ee = .returned (.tuple #[rv a b c d, .bool (someI a b c d)]) ∧ _
    rw [someI_nat A, hA]
    exact w_Apart_un a b c d e f g h w (by simp; omega)

theorem without_c (a b c d e f g h : Nat) (A : OkN a b c d) (B : OkN e f g h) (w : World) :
    Calls Try.prog 67 #[rv a b c d, rv e f g h] w fun ee w' => ee = .returned (rvP (apartP a b c d e f)) ∧ Below w.heap.size w w' := by
  have hle := A.le
  have hhi := A.hi
  by_cases k : e = f
  · have e1 : apartP a b c d e f = tidyP (butX a e) (butY b e) c d := by rw [apartP, if_pos (by omega)]
    have g0 : ((e : Int) == (f : Int)) = true := by simp; omega
    rw [e1]
    by_cases k1 : a = e
    · have x1 : butX a e = (a : Int) + 1 := by rw [butX, if_pos (by omega)]
      have g1 : ((a : Int) == (e : Int)) = true := by simp; omega
      by_cases k2 : b = e
      · have x2 : butY b e = (b : Int) - 1 := by rw [butY, if_pos (by omega)]
        rw [x1, x2]
        exact w_without_1 a b c d e f g h _ _ _ _ w (by omega) (by omega) (by omega) (by omega) g0 g1 (by simp; omega) (fun w => c_RangeTidyI _ _ _ _ w)
      · have x2 : butY b e = b := by rw [butY, if_neg (by omega)]
        rw [x1, x2]
        exact w_without_2 a b c d e f g h _ _ _ _ w (by omega) (by omega) (by omega) (by omega) g0 g1 (by simp; omega) (fun w => c_RangeTidyI _ _ _ _ w)
    · have x1 : butX a e = a := by rw [butX, if_neg (by omega)]
      have g1 : ((a : Int) == (e : Int)) = false := by simp; omega
      by_cases k2 : b = e
      · have x2 : butY b e = (b : Int) - 1 := by rw [butY, if_pos (by omega)]
        rw [x1, x2]
        exact w_without_3 a b c d e f g h _ _ _ _ w (by omega) (by omega) (by omega) (by omega) g0 g1 (by simp; omega) (fun w => c_RangeTidyI _ _ _ _ w)
      · have x2 : butY b e = b := by rw [butY, if_neg (by omega)]
        rw [x1, x2]
        exact w_without_4 a b c d e f g h _ _ _ _ w (by omega) (by omega) (by omega) (by omega) g0 g1 (by simp; omega) (fun w => c_RangeTidyI _ _ _ _ w)
  · have e1 : apartP a b c d e f = ((a : Int), (b : Int), (c : Int), (d : Int)) := by rw [apartP, if_neg (by omega)]
    rw [e1]
    exact w_without_un a b c d e f g h w (by simp; omega)

/-! the first less than the second -/
def lowQ (a b c d e f g h k : Int) : Bool := someI a (min b (f - k)) c d && someI (max e (a + k)) f g h
theorem low_no (a b c d e f g h : Nat) (k : Int) (k0 : 0 ≤ k) (k1 : k ≤ 1) (A : OkN a b c d) (B : OkN e f g h) (hq : lowQ a b c d e f g h k = false) (w : World) :
    Calls Try.prog 60 #[rv a b c d, rv e f g h, .int .i64 k] w fun ee w' => ee = .returned (.tuple #[rv 1 0 0 0, rv 1 0 0 0, .bool false]) ∧ Below w.heap.size w w' := by
  have hA := A.le; have hA2 := A.hi; have hB := B.le; have hB2 := B.hi
  unfold lowQ at hq
  by_cases h1 : (f : Int) - k < b
  · rw [show min (b : Int) (f - k) = f - k by omega] at hq
    by_cases h2 : (e : Int) < a + k
    · rw [show max (e : Int) (a + k) = a + k by omega] at hq
      by_cases h3 : (a : Int) ≤ f - k
      · have o1 := okB_mod A (X := (a : Int)) (Y := f - k) (by omega) h3 (by omega)
        have o2 := okB_mod B (X := (a : Int) + k) (Y := f) (by omega) (by omega) (by omega)
        cases hs : someI (a : Int) (f - k) c d
        · exact w_Low_1_n1 a b c d e f g h k w (by omega) (by omega) (by omega) (by omega) k0 k1 h1 h2 h3 (by omega) (fun w => by have := c_l2SomeI o1 w; rw [hs] at this; exact this)
        · rw [hs, Bool.true_and] at hq
          exact w_Low_1_n2 a b c d e f g h k w (by omega) (by omega) (by omega) (by omega) k0 k1 h1 h2 h3 (by omega) (fun w => by have := c_l2SomeI o1 w; rw [hs] at this; exact this) (fun w => by have := c_l2SomeI o2 w; rw [hq] at this; exact this)
      · exact w_Low_1_g1 a b c d e f g h k w (by omega) (by omega) (by omega) (by omega) k0 k1 h1 h2 (by omega)
    · rw [show max (e : Int) (a + k) = e by omega] at hq
      by_cases h3 : (a : Int) ≤ f - k
      · have o1 := okB_mod A (X := (a : Int)) (Y := f - k) (by omega) h3 (by omega)
        have o2 := okB_of B
        cases hs : someI (a : Int) (f - k) c d
        · exact w_Low_2_n1 a b c d e f g h k w (by omega) (by omega) (by omega) (by omega) k0 k1 h1 h2 h3 (by omega) (fun w => by have := c_l2SomeI o1 w; rw [hs] at this; exact this)
        · rw [hs, Bool.true_and] at hq
          exact w_Low_2_n2 a b c d e f g h k w (by omega) (by omega) (by omega) (by omega) k0 k1 h1 h2 h3 (by omega) (fun w => by have := c_l2SomeI o1 w; rw [hs] at this; exact this) (fun w => by have := c_l2SomeI o2 w; rw [hq] at this; exact this)
      · exact w_Low_2_g1 a b c d e f g h k w (by omega) (by omega) (by omega) (by omega) k0 k1 h1 h2 (by omega)
  · rw [show min (b : Int) (f - k) = b by omega] at hq
    have o1 := okB_of A
    by_cases h2 : (e : Int) < a + k
    · rw [show max (e : Int) (a + k) = a + k by omega] at hq
      have o2 := okB_mod B (X := (a : Int) + k) (Y := f) (by omega) (by omega) (by omega)
      cases hs : someI (a : Int) b c d
      · exact w_Low_3_n1 a b c d e f g h k w (by omega) (by omega) (by omega) (by omega) k0 k1 h1 h2 (by omega) (by omega) (fun w => by have := c_l2SomeI o1 w; rw [hs] at this; exact this)
      · rw [hs, Bool.true_and] at hq
        exact w_Low_3_n2 a b c d e f g h k w (by omega) (by omega) (by omega) (by omega) k0 k1 h1 h2 (by omega) (by omega) (fun w => by have := c_l2SomeI o1 w; rw [hs] at this; exact this) (fun w => by have := c_l2SomeI o2 w; rw [hq] at this; exact this)
    · rw [show max (e : Int) (a + k) = e by omega] at hq
      have o2 := okB_of B
      cases hs : someI (a : Int) b c d
      · exact w_Low_4_n1 a b c d e f g h k w (by omega) (by omega) (by omega) (by omega) k0 k1 h1 h2 (by omega) (by omega) (fun w => by have := c_l2SomeI o1 w; rw [hs] at this; exact this)
      · rw [hs, Bool.true_and] at hq
        exact w_Low_4_n2 a b c d e f g h k w (by omega) (by omega) (by omega) (by omega) k0 k1 h1 h2 (by omega) (by omega) (fun w => by have := c_l2SomeI o1 w; rw [hs] at this; exact this) (fun w => by have := c_l2SomeI o2 w; rw [hq] at this; exact this)

theorem someI_ok {X Y c d : Int} (h : someI X Y c d = true) : okB X Y c d = true := by simp [someI] at h; exact h.1
theorem someI_le {X Y c d : Int} (h : someI X Y c d = true) : X ≤ Y := by
  have := someI_ok h; simp [okB, inB] at this; omega

theorem low_yes (a b c d e f g h : Nat) (k : Int) (k0 : 0 ≤ k) (k1 : k ≤ 1) (A : OkN a b c d) (B : OkN e f g h) (hq : lowQ a b c d e f g h k = true) (w : World) :
    Calls Try.prog 60 #[rv a b c d, rv e f g h, .int .i64 k] w fun ee w' => ee = .returned (.tuple #[rvP (tidyP a (min b (f - k)) c d), rvP (tidyP (max e (a + k)) f g h), .bool true]) ∧ Below w.heap.size w w' := by
  have hA := A.le; have hA2 := A.hi; have hB := B.le; have hB2 := B.hi
  unfold lowQ at hq
  simp only [Bool.and_eq_true] at hq
  obtain ⟨s1, s2⟩ := hq
  have l1 := someI_le s1
  have l2 := someI_le s2
  have S1 : ∀ w, Calls Try.prog 73 #[rv a (min (b : Int) (f - k)) c d] w fun e w' => e = .returned (.bool true) ∧ Below w.heap.size w w' := fun w => by have := c_l2SomeI (someI_ok s1) w; rw [s1] at this; exact this
  have S2 : ∀ w, Calls Try.prog 73 #[rv (max (e : Int) (a + k)) f g h] w fun e w' => e = .returned (.bool true) ∧ Below w.heap.size w w' := fun w => by have := c_l2SomeI (someI_ok s2) w; rw [s2] at this; exact this
  have T1 := fun w => c_l2TidyI s1 w
  have T2 := fun w => c_l2TidyI s2 w
  by_cases h1 : (f : Int) - k < b
  · rw [show min (b : Int) (f - k) = f - k by omega] at *
    by_cases h2 : (e : Int) < a + k
    · rw [show max (e : Int) (a + k) = a + k by omega] at *
      exact w_Low_1_yes a b c d e f g h k _ _ _ _ _ _ _ _ w (by omega) (by omega) (by omega) (by omega) k0 k1 h1 h2 (by omega) (by omega) S1 S2 T1 T2
    · rw [show max (e : Int) (a + k) = e by omega] at *
      exact w_Low_2_yes a b c d e f g h k _ _ _ _ _ _ _ _ w (by omega) (by omega) (by omega) (by omega) k0 k1 h1 h2 (by omega) (by omega) S1 S2 T1 T2
  · rw [show min (b : Int) (f - k) = b by omega] at *
    by_cases h2 : (e : Int) < a + k
    · rw [show max (e : Int) (a + k) = a + k by omega] at *
      exact w_Low_3_yes a b c d e f g h k _ _ _ _ _ _ _ _ w (by omega) (by omega) (by omega) (by omega) k0 k1 h1 h2 (by omega) (by omega) S1 S2 T1 T2
    · rw [show max (e : Int) (a + k) = e by omega] at *
      exact w_Low_4_yes a b c d e f g h k _ _ _ _ _ _ _ _ w (by omega) (by omega) (by omega) (by omega) k0 k1 h1 h2 (by omega) (by omega) S1 S2 T1 T2
end Go.Proofs.Ytcopcajleonndaa
