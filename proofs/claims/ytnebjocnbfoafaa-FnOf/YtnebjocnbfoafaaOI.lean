/- RangeOf of both: one answer, that has all that an op makes. -/
import Derived.Test.YtnebjocnbfoafaaOD
import Derived.Test.YtnebjocnbfoafaaOE
import Derived.Test.YtnebjocnbfoafaaOH
namespace Go.Proofs.Ytnebjocnbfoafaa
open Go.RowKit
set_option linter.unusedVariables false
set_option linter.unusedSimpArgs false

abbrev CR (fn : FuncId) (args : Array Value) (v : Value) : Prop := ∀ w : World, Calls Try.prog fn args w fun ee w' => ee = .returned v ∧ Below w.heap.size w w'
theorem do_impl (op x y : Nat) (h1 : 1 ≤ op) (h2 : op ≤ 11) (hx : x ≤ 4294967295) (hy : y ≤ 4294967295) : CR 11 #[.int .i64 op, .int .i64 x, .int .i64 y] (.int .i64 (doN op x y : Nat)) := by
  intro w
  have hc : op = 1 ∨ op = 2 ∨ op = 3 ∨ op = 4 ∨ op = 5 ∨ op = 6 ∨ op = 7 ∨ op = 8 ∨ op = 9 ∨ op = 10 ∨ op = 11 := by omega
  rcases hc with rfl | rfl | rfl | rfl | rfl | rfl | rfl | rfl | rfl | rfl | rfl
  · have e : doN 1 x y = y := by simp [doN]
    rw [e]; exact c_Do_1 x y w hx hy
  · have e : bits .and .i64 ((x : Int) + y) 4294967295 = ((doN 2 x y : Nat) : Int) := by
      rw [and_maskO]; simp [doN]
    rw [← e]; exact c_Do_2 x y w hx hy
  · have e : bits .and .i64 ((x : Int) - y) 4294967295 = ((doN 3 x y : Nat) : Int) := by
      have e0 : doN 3 x y = (x + 4294967296 - y) % 4294967296 := by simp [doN]
      rw [e0, and_maskO]; omega
    rw [← e]; exact c_Do_3 x y w hx hy
  · have e : bits .and .i64 (wrap64 ((x : Int) * y)) 4294967295 = ((doN 4 x y : Nat) : Int) := by
      have e0 : doN 4 x y = (x * y) % 4294967296 := by simp [doN]
      rw [e0, and_maskO, show (x : Int) * y = ((x * y : Nat) : Int) by simp]; generalize x * y = P; unfold wrap64; omega
    rw [← e]; exact c_Do_4 x y w hx hy
  · have e : doN 5 x y = x &&& y := by simp [doN]
    rw [e]; exact c_Do_5 x y w hx hy
  · have e : doN 6 x y = x ||| y := by simp [doN]
    rw [e]; exact c_Do_6 x y w hx hy
  · have e : doN 7 x y = x ^^^ y := by simp [doN]
    rw [e]; exact c_Do_7 x y w hx hy
  · have e : bits .and .i64 ((x * 2 ^ (y % 32) : Nat) : Int) 4294967295 = ((doN 8 x y : Nat) : Int) := by
      rw [wrapN]; simp [doN]
    rw [← e]; exact c_Do_8 x y w hx hy
  · have e : doN 9 x y = x / 2 ^ (y % 32) := by simp [doN]
    rw [e]; exact c_Do_9 x y w hx hy
  · have e : doN 10 x y = x / y := by simp [doN]
    rw [e]; exact c_Do_10 x y w hx hy
  · have e : doN 11 x y = x % y := by simp [doN]
    rw [e]; exact c_Do_11 x y w hx hy
theorem do_spec (op x y : Nat) (h1 : 1 ≤ op) (h2 : op ≤ 11) (hx : x ≤ 4294967295) (hy : y ≤ 4294967295) : ∀ w : World, Calls Try.prog 56 #[.int .i64 op, .int .i64 x, .int .i64 y] w fun ee w' => ee = .returned (.int .i64 (doN op x y : Nat)) ∧ w' = w := by
  intro w
  have hc : op = 1 ∨ op = 2 ∨ op = 3 ∨ op = 4 ∨ op = 5 ∨ op = 6 ∨ op = 7 ∨ op = 8 ∨ op = 9 ∨ op = 10 ∨ op = 11 := by omega
  rcases hc with rfl | rfl | rfl | rfl | rfl | rfl | rfl | rfl | rfl | rfl | rfl
  · have e : doN 1 x y = y := by simp [doN]
    rw [e]; exact c_l2Do_1 x y w hx hy
  · have e : bits .and .i64 ((x : Int) + y) 4294967295 = ((doN 2 x y : Nat) : Int) := by
      rw [and_maskO]; simp [doN]
    rw [← e]; exact c_l2Do_2 x y w hx hy
  · have e : bits .and .i64 ((x : Int) - y) 4294967295 = ((doN 3 x y : Nat) : Int) := by
      have e0 : doN 3 x y = (x + 4294967296 - y) % 4294967296 := by simp [doN]
      rw [e0, and_maskO]; omega
    rw [← e]; exact c_l2Do_3 x y w hx hy
  · have e : bits .and .i64 (wrap64 ((x : Int) * y)) 4294967295 = ((doN 4 x y : Nat) : Int) := by
      have e0 : doN 4 x y = (x * y) % 4294967296 := by simp [doN]
      rw [e0, and_maskO, show (x : Int) * y = ((x * y : Nat) : Int) by simp]; generalize x * y = P; unfold wrap64; omega
    rw [← e]; exact c_l2Do_4 x y w hx hy
  · have e : doN 5 x y = x &&& y := by simp [doN]
    rw [e]; exact c_l2Do_5 x y w hx hy
  · have e : doN 6 x y = x ||| y := by simp [doN]
    rw [e]; exact c_l2Do_6 x y w hx hy
  · have e : doN 7 x y = x ^^^ y := by simp [doN]
    rw [e]; exact c_l2Do_7 x y w hx hy
  · have e : bits .and .i64 ((x * 2 ^ (y % 32) : Nat) : Int) 4294967295 = ((doN 8 x y : Nat) : Int) := by
      rw [wrapN]; simp [doN]
    rw [← e]; exact c_l2Do_8 x y w hx hy
  · have e : doN 9 x y = x / 2 ^ (y % 32) := by simp [doN]
    rw [e]; exact c_l2Do_9 x y w hx hy
  · have e : doN 10 x y = x / y := by simp [doN]
    rw [e]; exact c_l2Do_10 x y w hx hy
  · have e : doN 11 x y = x % y := by simp [doN]
    rw [e]; exact c_l2Do_11 x y w hx hy
theorem one_has {n : Nat} (h : n ≤ 4294967295) : OkN n n n 0 ∧ OfN n n n 0 n := by
  refine ⟨⟨Nat.le_refl _, h, h, Nat.zero_le _, Nat.and_zero _⟩, ⟨Nat.le_refl _, Nat.le_refl _, ?_⟩⟩
  rw [has_bit h h]
  intro i hi
  simp
/-- What both answer of two ranges, and what it has. -/
structure Res (op a b c d e f g h x y z u : Nat) : Prop where
  im : CR 6 #[.int .i64 op, rv a b c d, rv e f g h] (rv x y z u)
  sp : CR 7 #[.int .i64 op, rv a b c d, rv e f g h] (rv x y z u)
  ok : OkN x y z u
  has : ∀ m n, OfN a b c d m → OfN e f g h n → OfN x y z u (doN op m n)
/-- What both make of two tidy ranges, and what it has. -/
structure Mk (op : Nat) (k : FuncId) (p q r s p' q' r' s' x y z u : Nat) : Prop where
  im : CR k #[rv p q r s, rv p' q' r' s'] (rv x y z u)
  sp : CR 27 #[.int .i64 op, rv p q r s, rv p' q' r' s'] (rv x y z u)
  ok : OkN x y z u
  has : ∀ m n, OfN p q r s m → OfN p' q' r' s' n → OfN x y z u (doN op m n)
theorem Mk.tidy {op : Nat} {k : FuncId} {p q r s p' q' r' s' lo hi b o m n : Nat} (M : OfN p q r s m) (N : OfN p' q' r' s' n)
    (R : OkN lo hi b o) (H : ∀ m n, OfN p q r s m → OfN p' q' r' s' n → OfN lo hi b o (doN op m n))
    (hi1 : CR k #[rv p q r s, rv p' q' r' s'] (tv lo hi b o)) (hs1 : CR 27 #[.int .i64 op, rv p q r s, rv p' q' r' s'] (tv lo hi b o)) :
    ∃ x y z u, Mk op k p q r s p' q' r' s' x y z u :=
  ⟨_, _, _, _, hi1, hs1, tidy_ok R (H m n M N), fun m n hm hn => tidy_of R (H m n hm hn)⟩
theorem all_mk {op : Nat} {k : FuncId} {p q r s p' q' r' s' : Nat} (A : OkN p q r s) (B : OkN p' q' r' s') (hi1 : CR k #[rv p q r s, rv p' q' r' s'] (rv 0 4294967295 0 4294967295)) (hs1 : CR 27 #[.int .i64 op, rv p q r s, rv p' q' r' s'] (rv 0 4294967295 0 4294967295)) :
    ∃ x y z u, Mk op k p q r s p' q' r' s' x y z u :=
  ⟨0, 4294967295, 0, 4294967295, hi1, hs1, all_ok, fun m n hm hn => all_of (do_le op (Nat.le_trans hm.hi A.hi) (Nat.le_trans hn.hi B.hi))⟩
theorem bq_t {x y : Nat} (h : x = y) : ((x : Int) == y) = true := by simp [h]
theorem bq_f {x y : Nat} (h : ¬ x = y) : ((x : Int) == y) = false := by simp; omega
theorem do_mov (m n : Nat) : doN 1 m n = n := by simp [doN]
theorem mk_mov (p q r s p' q' r' s' : Nat) (nk : ¬ (p = q ∧ p' = q')) (A : OkN p q r s) (B : OkN p' q' r' s') {m n : Nat} (M : OfN p q r s m) (N : OfN p' q' r' s' n) : ∃ x y z u, Mk 1 41 p q r s p' q' r' s' x y z u := by
  refine ⟨p', q', r', s', fun w => c_mov _ _ _ _ _ _ _ _ w, fun w => ?_, B, fun m n hm hn => by rw [do_mov]; exact hn⟩
  by_cases k0 : p = q
  · exact s_of_mov_y p q r s p' q' r' s' w (bq_t k0) (bq_f fun h => nk ⟨k0, h⟩)
  · exact s_of_mov_n p q r s p' q' r' s' w (bq_f k0)
theorem mk_add (p q r s p' q' r' s' : Nat) (nk : ¬ (p = q ∧ p' = q')) (A : OkN p q r s) (B : OkN p' q' r' s') {m n : Nat} (M : OfN p q r s m) (N : OfN p' q' r' s' n) : ∃ x y z u, Mk 2 42 p q r s p' q' r' s' x y z u := by
  have H : ∀ m n, OfN p q r s m → OfN p' q' r' s' n → _ := fun m n hm hn => add_of A B hm hn
  have R := add_ok A B
  by_cases hw : q + q' ≤ 4294967295
  · rw [if_pos hw, if_pos hw] at R
    simp only [if_pos hw] at H
    have SS := hid (fun w => s_add_yes p q r s p' q' r' s' w A B hw)
    exact Mk.tidy M N R H (fun w => c_add_yes p q r s p' q' r' s' w A B M N hw) (fun w => by by_cases k0 : p = q; exact s_of_add_y p q r s p' q' r' s' _ _ _ _ w (bq_t k0) (bq_f fun h => nk ⟨k0, h⟩) SS; exact s_of_add_n p q r s p' q' r' s' _ _ _ _ w (bq_f k0) SS)
  · rw [if_neg hw, if_neg hw] at R
    simp only [if_neg hw] at H
    have SS := hid (fun w => s_add_wide p q r s p' q' r' s' w A B hw)
    exact Mk.tidy M N R H (fun w => c_add_wide p q r s p' q' r' s' w A B M N hw) (fun w => by by_cases k0 : p = q; exact s_of_add_y p q r s p' q' r' s' _ _ _ _ w (bq_t k0) (bq_f fun h => nk ⟨k0, h⟩) SS; exact s_of_add_n p q r s p' q' r' s' _ _ _ _ w (bq_f k0) SS)
theorem mk_sub (p q r s p' q' r' s' : Nat) (nk : ¬ (p = q ∧ p' = q')) (A : OkN p q r s) (B : OkN p' q' r' s') {m n : Nat} (M : OfN p q r s m) (N : OfN p' q' r' s' n) : ∃ x y z u, Mk 3 43 p q r s p' q' r' s' x y z u := by
  have := A.le
  have := A.hi
  have := B.le
  by_cases hw : q' ≤ p
  · have SS := hid (fun w => s_sub_yes p q r s p' q' r' s' w A B hw)
    exact Mk.tidy M N (endsO_ok (by omega) (by omega)) (fun m n hm hn => sub_of A B hm hn hw) (fun w => c_sub_yes p q r s p' q' r' s' w A B hw) (fun w => by by_cases k0 : p = q; exact s_of_sub_y p q r s p' q' r' s' _ _ _ _ w (bq_t k0) (bq_f fun h => nk ⟨k0, h⟩) SS; exact s_of_sub_n p q r s p' q' r' s' _ _ _ _ w (bq_f k0) SS)
  · have SS := hid (fun w => s_sub_no p q r s p' q' r' s' w (by omega))
    exact all_mk A B (fun w => c_sub_no p q r s p' q' r' s' w (by omega)) (fun w => by by_cases k0 : p = q; exact s_of_sub_y p q r s p' q' r' s' _ _ _ _ w (bq_t k0) (bq_f fun h => nk ⟨k0, h⟩) SS; exact s_of_sub_n p q r s p' q' r' s' _ _ _ _ w (bq_f k0) SS)
theorem mk_mul (p q r s p' q' r' s' : Nat) (nk : ¬ (p = q ∧ p' = q')) (A : OkN p q r s) (B : OkN p' q' r' s') {m n : Nat} (M : OfN p q r s m) (N : OfN p' q' r' s' n) : ∃ x y z u, Mk 4 44 p q r s p' q' r' s' x y z u := by
  by_cases hw : q * q' ≤ 4294967295
  · have hsp : CR 27 #[.int .i64 4, rv p q r s, rv p' q' r' s'] (tv (p * p') (q * q') 0 4294967295) := by
      intro w
      by_cases k0 : p = q
      · by_cases z : q = 0
        · exact s_of_mul_zero_y p q r s p' q' r' s' w A B (bq_t k0) (bq_f fun h => nk ⟨k0, h⟩) hw z
        · exact s_of_mul_yes_y p q r s p' q' r' s' w A B (bq_t k0) (bq_f fun h => nk ⟨k0, h⟩) hw z
      · by_cases z : q = 0
        · exact s_of_mul_zero_n p q r s p' q' r' s' w A B (bq_f k0) hw z
        · exact s_of_mul_yes_n p q r s p' q' r' s' w A B (bq_f k0) hw z
    exact Mk.tidy M N (endsO_ok (Nat.mul_le_mul A.le B.le) hw) (fun m n hm hn => mul_of A B hm hn hw) (fun w => c_mul_yes p q r s p' q' r' s' w A B hw) hsp
  · have hsp : CR 27 #[.int .i64 4, rv p q r s, rv p' q' r' s'] (rv 0 4294967295 0 4294967295) := by
      intro w
      by_cases k0 : p = q
      · exact s_of_mul_no_y p q r s p' q' r' s' w A B (bq_t k0) (bq_f fun h => nk ⟨k0, h⟩) hw
      · exact s_of_mul_no_n p q r s p' q' r' s' w A B (bq_f k0) hw
    exact all_mk A B (fun w => c_mul_no p q r s p' q' r' s' w A B hw) hsp
theorem mk_and (p q r s p' q' r' s' : Nat) (nk : ¬ (p = q ∧ p' = q')) (A : OkN p q r s) (B : OkN p' q' r' s') {m n : Nat} (M : OfN p q r s m) (N : OfN p' q' r' s' n) : ∃ x y z u, Mk 5 45 p q r s p' q' r' s' x y z u := by
  have hsp : CR 59 #[.int .i64 5, rv p q r s, rv p' q' r' s'] (tv 0 (min q q') (r &&& r') ((r ||| s) &&& (r' ||| s') &&& notB (r &&& r'))) := by
    intro w
    by_cases hw : q' < q
    · rw [show min q q' = q' by omega]; exact s_and_lt p q r s p' q' r' s' w A B hw
    · rw [show min q q' = q by omega]; exact s_and_ge p q r s p' q' r' s' w A B hw
  have SS := hid hsp
  exact Mk.tidy M N (and_ok A B) (fun m n hm hn => and_of A B hm hn) (fun w => c_and p q r s p' q' r' s' w A B M N) (fun w => by by_cases k0 : p = q; exact s_of_and_y p q r s p' q' r' s' _ _ _ _ w (bq_t k0) (bq_f fun h => nk ⟨k0, h⟩) SS; exact s_of_and_n p q r s p' q' r' s' _ _ _ _ w (bq_f k0) SS)
theorem mk_or (p q r s p' q' r' s' : Nat) (nk : ¬ (p = q ∧ p' = q')) (A : OkN p q r s) (B : OkN p' q' r' s') {m n : Nat} (M : OfN p q r s m) (N : OfN p' q' r' s' n) : ∃ x y z u, Mk 6 46 p q r s p' q' r' s' x y z u := by
  have hsp : CR 59 #[.int .i64 6, rv p q r s, rv p' q' r' s'] (tv (max p p') 4294967295 (r ||| r') ((s ||| s') &&& notB (r ||| r'))) := by
    intro w
    by_cases hw : p < p'
    · rw [show max p p' = p' by omega]; exact s_or_gt p q r s p' q' r' s' w A B hw
    · rw [show max p p' = p by omega]; exact s_or_le p q r s p' q' r' s' w A B hw
  have SS := hid hsp
  exact Mk.tidy M N (or_ok A B) (fun m n hm hn => or_of A B hm hn) (fun w => c_or p q r s p' q' r' s' w A B M N) (fun w => by by_cases k0 : p = q; exact s_of_or_y p q r s p' q' r' s' _ _ _ _ w (bq_t k0) (bq_f fun h => nk ⟨k0, h⟩) SS; exact s_of_or_n p q r s p' q' r' s' _ _ _ _ w (bq_f k0) SS)
theorem mk_xor (p q r s p' q' r' s' : Nat) (nk : ¬ (p = q ∧ p' = q')) (A : OkN p q r s) (B : OkN p' q' r' s') {m n : Nat} (M : OfN p q r s m) (N : OfN p' q' r' s' n) : ∃ x y z u, Mk 7 47 p q r s p' q' r' s' x y z u := by
  have SS := hid (fun w => s_xor p q r s p' q' r' s' w A B)
  exact Mk.tidy M N (xor_ok A B) (fun m n hm hn => xor_of A B hm hn) (fun w => c_xor p q r s p' q' r' s' w A B M N) (fun w => by by_cases k0 : p = q; exact s_of_xor_y p q r s p' q' r' s' _ _ _ _ w (bq_t k0) (bq_f fun h => nk ⟨k0, h⟩) SS; exact s_of_xor_n p q r s p' q' r' s' _ _ _ _ w (bq_f k0) SS)
theorem mk_shl (p q r s p' q' r' s' : Nat) (nk : ¬ (p = q ∧ p' = q')) (A : OkN p q r s) (B : OkN p' q' r' s') {m n : Nat} (M : OfN p q r s m) (N : OfN p' q' r' s' n) : ∃ x y z u, Mk 8 48 p q r s p' q' r' s' x y z u := by
  have hS : bits .and .i64 (p' : Int) 31 = ((p' % 32 : Nat) : Int) := by
    have e := and_i64 p' 31 (by have := B.lo; omega) (by omega)
    rw [show (31 : Nat) = 2 ^ 5 - 1 from rfl, Nat.and_two_pow_sub_one_eq_mod] at e
    exact e
  by_cases k2 : p' = q'
  · have k1 : ¬ p = q := fun h => nk ⟨h, k2⟩
    have E : ∀ n, OfN p' q' r' s' n → n = p' := fun n hn => by have := hn.lo; have := hn.hi; omega
    have H : ∀ m n, OfN p q r s m → OfN p' q' r' s' n → _ := fun m n hm hn => shl_of A hm p'
    have R := shl_ok A (p' % 32)
    by_cases hw : q * 2 ^ (p' % 32) ≤ 4294967295
    · rw [if_pos hw, if_pos hw] at R
      simp only [if_pos hw] at H
      exact Mk.tidy M N R (fun m n hm hn => by rw [E n hn]; exact H m n hm hn) (fun w => c_shl_yes p q r s p' q' r' s' w A B M N (bq_t k2) hw) (fun w => s_of_shl_n1 p q r s p' q' r' s' _ _ _ _ _ w (bq_f k1) (bq_t k2) hS (fun w => s_shl_yes p q r s (p' % 32) w A (by omega) hw))
    · rw [if_neg hw, if_neg hw] at R
      simp only [if_neg hw] at H
      exact Mk.tidy M N R (fun m n hm hn => by rw [E n hn]; exact H m n hm hn) (fun w => c_shl_wide p q r s p' q' r' s' w A B M N (bq_t k2) hw) (fun w => s_of_shl_n1 p q r s p' q' r' s' _ _ _ _ _ w (bq_f k1) (bq_t k2) hS (fun w => s_shl_wide p q r s (p' % 32) w A (by omega) hw))
  · refine all_mk A B (fun w => c_shl_no p q r s p' q' r' s' w (bq_f k2)) (fun w => ?_)
    by_cases k0 : p = q
    · exact s_of_shl_0y p q r s p' q' r' s' _ _ _ _ w (bq_t k0) (bq_f k2) (fun w => o_l2All w)
    · exact s_of_shl_0n p q r s p' q' r' s' _ _ _ _ w (bq_f k0) (bq_f k2) (fun w => o_l2All w)
theorem mk_shr (p q r s p' q' r' s' : Nat) (nk : ¬ (p = q ∧ p' = q')) (A : OkN p q r s) (B : OkN p' q' r' s') {m n : Nat} (M : OfN p q r s m) (N : OfN p' q' r' s' n) : ∃ x y z u, Mk 9 49 p q r s p' q' r' s' x y z u := by
  have hS : bits .and .i64 (p' : Int) 31 = ((p' % 32 : Nat) : Int) := by
    have e := and_i64 p' 31 (by have := B.lo; omega) (by omega)
    rw [show (31 : Nat) = 2 ^ 5 - 1 from rfl, Nat.and_two_pow_sub_one_eq_mod] at e
    exact e
  by_cases k2 : p' = q'
  · have k1 : ¬ p = q := fun h => nk ⟨h, k2⟩
    have E : ∀ n, OfN p' q' r' s' n → n = p' := fun n hn => by have := hn.lo; have := hn.hi; omega
    exact Mk.tidy M N (shr_ok A (p' % 32)) (fun m n hm hn => by rw [E n hn]; exact shr_of A hm p') (fun w => c_shr_yes p q r s p' q' r' s' w A B M N (bq_t k2)) (fun w => s_of_shr_n1 p q r s p' q' r' s' _ _ _ _ _ w (bq_f k1) (bq_t k2) hS (fun w => s_shr p q r s (p' % 32) w A (by omega)))
  · have H : ∀ m n, OfN p q r s m → OfN p' q' r' s' n → OfN 0 q 0 4294967295 (doN 9 m n) := fun m n hm hn => by
      have e0 : doN 9 m n = m / 2 ^ (n % 32) := by simp [doN]
      rw [e0]
      exact endsO_of (Nat.zero_le _) (Nat.le_trans (Nat.div_le_self _ _) hm.hi)
    refine Mk.tidy M N (endsO_ok (Nat.zero_le _) A.hi) H (fun w => c_shr_no p q r s p' q' r' s' w A (bq_f k2)) (fun w => ?_)
    by_cases k0 : p = q
    · exact s_of_shr_0y p q r s p' q' r' s' _ _ _ _ w (bq_t k0) (bq_f k2) (fun w => o_l2Ends 0 q w (Nat.zero_le _) A.hi)
    · exact s_of_shr_0n p q r s p' q' r' s' _ _ _ _ w (bq_f k0) (bq_f k2) (fun w => o_l2Ends 0 q w (Nat.zero_le _) A.hi)
theorem mk_div (p q r s p' q' r' s' : Nat) (nk : ¬ (p = q ∧ p' = q')) (A : OkN p q r s) (B : OkN p' q' r' s') {m n : Nat} (M : OfN p q r s m) (N : OfN p' q' r' s' n) : ∃ x y z u, Mk 10 50 p q r s p' q' r' s' x y z u := by
  by_cases hw : 0 < p'
  · have SS := hid (fun w => s_div_yes p q r s p' q' r' s' w A B hw)
    exact Mk.tidy M N (endsO_ok (Nat.div_le_div A.le B.le (by omega)) (by have := Nat.div_le_self q p'; have := A.hi; omega)) (fun m n hm hn => div_of A B hm hn hw) (fun w => c_div_yes p q r s p' q' r' s' w A B hw) (fun w => by by_cases k0 : p = q; exact s_of_div_y p q r s p' q' r' s' _ _ _ _ w (bq_t k0) (bq_f fun h => nk ⟨k0, h⟩) SS; exact s_of_div_n p q r s p' q' r' s' _ _ _ _ w (bq_f k0) SS)
  · have SS := hid (fun w => s_div_zero p q r s p' q' r' s' w A (by omega))
    exact Mk.tidy M N (endsO_ok (Nat.zero_le _) A.hi) (fun m n hm hn => div_zero hm n) (fun w => c_div_zero p q r s p' q' r' s' w A (by omega)) (fun w => by by_cases k0 : p = q; exact s_of_div_y p q r s p' q' r' s' _ _ _ _ w (bq_t k0) (bq_f fun h => nk ⟨k0, h⟩) SS; exact s_of_div_n p q r s p' q' r' s' _ _ _ _ w (bq_f k0) SS)
theorem mk_mod (p q r s p' q' r' s' : Nat) (nk : ¬ (p = q ∧ p' = q')) (A : OkN p q r s) (B : OkN p' q' r' s') {m n : Nat} (M : OfN p q r s m) (N : OfN p' q' r' s' n) : ∃ x y z u, Mk 11 51 p q r s p' q' r' s' x y z u := by
  have := A.hi
  by_cases h1 : q < p'
  · have SS := hid (fun w => s_mod_same p q r s p' q' r' s' w h1)
    exact ⟨p, q, r, s, fun w => c_mod_same p q r s p' q' r' s' w h1, (fun w => by by_cases k0 : p = q; exact s_of_mod_y p q r s p' q' r' s' _ _ _ _ w (bq_t k0) (bq_f fun h => nk ⟨k0, h⟩) SS; exact s_of_mod_n p q r s p' q' r' s' _ _ _ _ w (bq_f k0) SS), A, fun m n hm hn => by rw [mod_same hm hn h1]; exact hm⟩
  · by_cases hw : 0 < p'
    · have hsp : CR 61 #[.int .i64 11, rv p q r s, rv p' q' r' s'] (tv 0 (min (q' - 1) q) 0 4294967295) := by
        intro w
        by_cases h3 : q' - 1 < q
        · rw [show min (q' - 1) q = q' - 1 by omega]; exact s_mod_lt p q r s p' q' r' s' w A B h1 hw h3
        · rw [show min (q' - 1) q = q by omega]; exact s_mod_ge p q r s p' q' r' s' w A B h1 hw h3
      have SS := hid hsp
      exact Mk.tidy M N (endsO_ok (Nat.zero_le _) (by omega)) (fun m n hm hn => mod_of hm hn hw) (fun w => c_mod_yes p q r s p' q' r' s' w A B h1 hw) (fun w => by by_cases k0 : p = q; exact s_of_mod_y p q r s p' q' r' s' _ _ _ _ w (bq_t k0) (bq_f fun h => nk ⟨k0, h⟩) SS; exact s_of_mod_n p q r s p' q' r' s' _ _ _ _ w (bq_f k0) SS)
    · have SS := hid (fun w => s_mod_zero p q r s p' q' r' s' w A B (by omega))
      exact Mk.tidy M N (endsO_ok (Nat.zero_le _) A.hi) (fun m n hm hn => mod_zero hm n) (fun w => c_mod_zero p q r s p' q' r' s' w A B (by omega)) (fun w => by by_cases k0 : p = q; exact s_of_mod_y p q r s p' q' r' s' _ _ _ _ w (bq_t k0) (bq_f fun h => nk ⟨k0, h⟩) SS; exact s_of_mod_n p q r s p' q' r' s' _ _ _ _ w (bq_f k0) SS)
/-- From makers to RangeOf. -/
theorem res_of {op : Nat} {k : FuncId} (h1 : 1 ≤ op) (h2 : op ≤ 11) (HE : Enters k) (HL : Looks op k) {a b c d e f g h m n : Nat} (A : OkN a b c d) (B : OkN e f g h) (M : OfN a b c d m) (N : OfN e f g h n)
    (H : ∀ (p q r s p' q' r' s' : Nat), ¬ (p = q ∧ p' = q') → OkN p q r s → OkN p' q' r' s' → ∀ {m n : Nat}, OfN p q r s m → OfN p' q' r' s' n → ∃ x y z u, Mk op k p q r s p' q' r' s' x y z u) :
    ∃ x y z u, Res op a b c d e f g h x y z u := by
  have A' := tidy_ok A M
  have B' := tidy_ok B N
  have M' := tidy_of A M
  have N' := tidy_of B N
  have SA := some_of A M
  have SB := some_of B N
  have s1 : someI a b c d = true := by rw [someI_nat A]; exact SA
  have s2 : someI e f g h = true := by rw [someI_nat B]; exact SB
  have hop : inB (op : Int) 1 11 = true := by simp [inB]; omega
  have TA : CR 22 #[rv a b c d] (tv a b c d) := fun w => c_RangeTidy a b c d w A SA
  have TB : CR 22 #[rv e f g h] (tv e f g h) := fun w => c_RangeTidy e f g h w B SB
  have UA : CR 28 #[rv a b c d] (tv a b c d) := fun w => c_l2Tidy a b c d w A
  have UB : CR 28 #[rv e f g h] (tv e f g h) := fun w => c_l2Tidy e f g h w B
  have S1 : CR 26 #[rv a b c d] (.bool true) := fun w => by have := c_l2Some a b c d w A; rw [SA] at this; exact this
  have S2 : CR 26 #[rv e f g h] (.bool true) := fun w => by have := c_l2Some e f g h w B; rw [SB] at this; exact this
  by_cases nk : tLo a b c = tHi a b c d ∧ tLo e f g = tHi e f g h
  · obtain ⟨k1, k2⟩ := nk
    have lp : tLo a b c ≤ 4294967295 := A'.lo
    have lq : tLo e f g ≤ 4294967295 := B'.lo
    have ln := do_le op lp lq
    obtain ⟨o1, o2⟩ := one_has ln
    refine ⟨_, _, _, 0, fun w => ?_, fun w => ?_, o1, fun m n hm hn => ?_⟩
    · exact g_of_k op k a b c d e f g h _ _ _ _ _ _ _ _ _ _ _ _ _ w HE HL s1 s2 TA TB (bq_t k1) (bq_t k2) (do_impl op _ _ h1 h2 lp lq) (fun w => c_RangeOne _ w (by simp [inB]; omega))
    · exact sg_of op a b c d e f g h _ _ _ _ _ _ _ _ _ _ _ _ w hop (okB_of A) (okB_of B) S1 S2 UA UB (fun w => s_of_k op _ _ _ _ _ _ _ _ _ w (bq_t k1) (bq_t k2) (do_spec op _ _ h1 h2 lp lq))
    · have hm' := tidy_of A hm
      have hn' := tidy_of B hn
      have e1 : m = tLo a b c := by have := hm'.lo; have := hm'.hi; omega
      have e2 : n = tLo e f g := by have := hn'.lo; have := hn'.hi; omega
      rw [e1, e2]
      exact o2
  · obtain ⟨x, y, z, u, R⟩ := H _ _ _ _ _ _ _ _ nk A' B' M' N'
    refine ⟨x, y, z, u, fun w => ?_, fun w => ?_, R.ok, fun m n hm hn => R.has m n (tidy_of A hm) (tidy_of B hn)⟩
    · by_cases k1 : tLo a b c = tHi a b c d
      · exact g_of_y op k a b c d e f g h _ _ _ _ _ _ _ _ _ _ _ _ 0 w HE HL s1 s2 TA TB (bq_t k1) (bq_f fun hh => nk ⟨k1, hh⟩) R.im
      · exact g_of_n op k a b c d e f g h _ _ _ _ _ _ _ _ _ _ _ _ 0 w HE HL s1 s2 TA TB (bq_f k1) R.im
    · exact sg_of op a b c d e f g h _ _ _ _ _ _ _ _ _ _ _ _ w hop (okB_of A) (okB_of B) S1 S2 UA UB R.sp
theorem of_both (op : Nat) (h1 : 1 ≤ op) (h2 : op ≤ 11) {a b c d e f g h m n : Nat} (A : OkN a b c d) (B : OkN e f g h) (M : OfN a b c d m) (N : OfN e f g h n) : ∃ x y z u, Res op a b c d e f g h x y z u := by
  have hc : op = 1 ∨ op = 2 ∨ op = 3 ∨ op = 4 ∨ op = 5 ∨ op = 6 ∨ op = 7 ∨ op = 8 ∨ op = 9 ∨ op = 10 ∨ op = 11 := by omega
  rcases hc with rfl | rfl | rfl | rfl | rfl | rfl | rfl | rfl | rfl | rfl | rfl
  · exact res_of (by omega) (by omega) enters1 looks1 A B M N mk_mov
  · exact res_of (by omega) (by omega) enters2 looks2 A B M N mk_add
  · exact res_of (by omega) (by omega) enters3 looks3 A B M N mk_sub
  · exact res_of (by omega) (by omega) enters4 looks4 A B M N mk_mul
  · exact res_of (by omega) (by omega) enters5 looks5 A B M N mk_and
  · exact res_of (by omega) (by omega) enters6 looks6 A B M N mk_or
  · exact res_of (by omega) (by omega) enters7 looks7 A B M N mk_xor
  · exact res_of (by omega) (by omega) enters8 looks8 A B M N mk_shl
  · exact res_of (by omega) (by omega) enters9 looks9 A B M N mk_shr
  · exact res_of (by omega) (by omega) enters10 looks10 A B M N mk_div
  · exact res_of (by omega) (by omega) enters11 looks11 A B M N mk_mod
end Go.Proofs.Ytnebjocnbfoafaa
