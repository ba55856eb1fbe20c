/- Contracts of the program's makers of ranges. -/
import Derived.Test.YtnebjocnbfoafaaOM
import Derived.Test.YtnebjocnbfoafaaRR
import Derived.Test.YtnebjocnbfoafaaRO
import Derived.Test.YtnebjocnbfoafaaDQ
namespace Go.Proofs.Ytnebjocnbfoafaa
open Go.RowKit
set_option linter.unusedVariables false
set_option linter.unusedSimpArgs false

/-- A tidied range. -/
abbrev tv (lo hi b o : Nat) : Value := rv (tLo lo hi b) (tHi lo hi b o) (tB lo hi b) (tO lo hi o)
theorem and_maskO (x : Int) : bits .and .i64 x 4294967295 = x % 4294967296 := by
  show IntKind.i64.wrap ((BitVec.ofInt 64 x &&& BitVec.ofInt 64 4294967295).toNat : Int) = _
  have e : (BitVec.ofInt 64 (4294967295 : Int)).toNat = 2 ^ 32 - 1 := by decide
  rw [BitVec.toNat_and, ofInt64, e, Nat.and_two_pow_sub_one_eq_mod, IntKind.wrap_i64]
  omega

/-- What RangeDo answers, of both. -/
abbrev DoP (op : Int) (a b v : Nat) : Prop := ∀ w, Calls Try.prog 11 #[.int .i64 op, .int .i64 a, .int .i64 b] w fun e w' => e = .returned (.int .i64 v) ∧ Below w.heap.size w w'
theorem tidyI (lo hi b o : Nat) (h : OkN lo hi b o) {n : Nat} (hn : OfN lo hi b o n) : ∀ w : World, Calls Try.prog 22 #[rv lo hi b o] w fun ee w' => ee = .returned (tv lo hi b o) ∧ Below w.heap.size w w' :=
  fun w => c_RangeTidy lo hi b o w h (some_of h hn)
set_option maxRecDepth 100000 in
set_option maxHeartbeats 2000000 in
theorem c_allNumbers  (w : World)  :
    Calls Try.prog 75 #[] w fun ee w' => ee = .returned (rv 0 4294967295 0 4294967295) ∧ Below w.heap.size w w' := by
  go_enter Try.func75, Try.ntmps75
  go_wp2
  refine bodyPost_ret (v := rv 0 4294967295 0 4294967295) (by simp [results, Try.results75, go_sem]) rfl ⟨rfl, ?_⟩
  repeat (first | exact (Below.refl _ _).alloc (Nat.le_refl _) _ | refine Below.setCell ?_ (by simp) _)

set_option maxRecDepth 100000 in
set_option maxHeartbeats 2000000 in
theorem c_fromTo (lo hi : Nat) (w : World) (h1 : lo ≤ hi) (h2 : hi ≤ 4294967295) :
    Calls Try.prog 76 #[.int .i64 lo, .int .i64 hi] w fun ee w' => ee = .returned (tv lo hi 0 4294967295) ∧ Below w.heap.size w w' := by
  have Ht : Hid (∀ w, Calls Try.prog 22 #[rv lo hi 0 4294967295] w fun ee w' => ee = .returned (tv (lo) (hi) (0) (4294967295)) ∧ Below w.heap.size w w') := by
    intro w
    have this := tidyI lo hi 0 4294967295 (endsO_ok h1 h2) (endsO_of (Nat.le_refl _) h1) w
    exact this
  have bQ0 := hid (RBox.new w 0 0 0 0)
  have bel0 := hid ((Below.refl w.heap.size w).alloc (Nat.le_refl _) (cellsR4 0 0 0 0))
  go_enter Try.func76, Try.ntmps76
  go_wp2_with fail
  refine (Ht.out _).mono ?_
  rintro ee w1 ⟨rfl, hb1⟩
  have bQ1 := hid (bQ0.out.below hb1)
  have bel1 := hid (bel0.out.trans (hb1.mono bel0.out.size))
  clear hb1 bQ0 bel0
  obtain ⟨g0, g1, g2, g3⟩ := RBox.box bQ1.out
  have fq := RBox.frozen bQ1.out
  have P5 := hid (RBox.box (bQ1.out.st4 (x' := tLo (lo) (hi) (0)) (y' := tHi (lo) (hi) (0) (4294967295)) (z' := tB (lo) (hi) (0)) (u' := tO (lo) (hi) (4294967295))))
  have B5 := hid (st4_below (w.heap.size) (tLo (lo) (hi) (0)) (tHi (lo) (hi) (0) (4294967295)) (tB (lo) (hi) (0)) (tO (lo) (hi) (4294967295)) bel1.out (by omega))
  go_wp2_with fail
  obtain ⟨p0, p1, p2, p3⟩ := P5.out
  unfold st4 at p0 p1 p2 p3
  refine bodyPost_ret (v := rv (tLo (lo) (hi) (0)) (tHi (lo) (hi) (0) (4294967295)) (tB (lo) (hi) (0)) (tO (lo) (hi) (4294967295))) (by simp [results, Try.results76, go_sem, p0, p1, p2, p3]) rfl ⟨rfl, B5.out⟩

theorem andNot_top (L o : Nat) (hL : L < 4611686018427387904) (ho : o ≤ 4294967295) : bits .and .i64 (bits .andNot .i64 (L : Int) (o : Int)) 4294967295 = ((L &&& notB o : Nat) : Int) := by
  have e : (L &&& (2 ^ 64 - (o + 1))) % 4294967296 = L &&& notB o := by
    apply Nat.eq_of_testBit_eq
    intro i
    rw [show (4294967296 : Nat) = 2 ^ 32 from rfl, Nat.testBit_mod_two_pow, Nat.testBit_and, Nat.testBit_and, Nat.testBit_two_pow_sub_succ (by omega), not_bit]
    by_cases hi : i < 32
    · simp [hi, show i < 64 by omega]
    · simp [hi, high_bit ho hi]
  have e2 : bits .andNot .i64 (L : Int) (o : Int) = ((L &&& (2 ^ 64 - (o + 1)) : Nat) : Int) := by
    have hx : L &&& (2 ^ 64 - (o + 1)) ≤ L := Nat.and_le_left
    show IntKind.i64.wrap ((BitVec.ofInt 64 (L : Int) &&& ~~~BitVec.ofInt 64 (o : Int)).toNat : Int) = _
    rw [BitVec.toNat_and, BitVec.toNat_not, ofInt64, ofInt64, IntKind.wrap_i64]
    rw [show ((L : Int) % 18446744073709551616).toNat = L from by omega, show ((o : Int) % 18446744073709551616).toNat = o from by omega]
    rw [show 2 ^ 64 - 1 - o = 2 ^ 64 - (o + 1) from by omega]
    omega
  rw [and_maskO, e2, ← e]
  omega
set_option maxRecDepth 100000 in
set_option maxHeartbeats 2000000 in
theorem c_sub_no (a b c d e f g h : Nat) (w : World) (h1 : a < f) :
    Calls Try.prog 43 #[rv a b c d, rv e f g h] w fun ee w' => ee = .returned (rv 0 4294967295 0 4294967295) ∧ Below w.heap.size w w' := by
  have h1' : (a : Int) < f := by omega
  clear h1
  have bQ0 := hid (twoQ w a b c d e f g h)
  have bel0 := hid (twoW w a b c d e f g h)
  go_enter Try.func43, Try.ntmps43
  go_wp2_with fail
  refine (c_allNumbers _).mono ?_
  rintro ee w1 ⟨rfl, hb1⟩
  have bQ1 := hid (bQ0.out.below hb1)
  have bel1 := hid (bel0.out.trans (hb1.mono bel0.out.size))
  clear hb1 bQ0 bel0
  obtain ⟨g0, g1, g2, g3⟩ := RBox.box bQ1.out
  have fq := RBox.frozen bQ1.out
  have P5 := hid (RBox.box (bQ1.out.st4 (x' := 0) (y' := 4294967295) (z' := 0) (u' := 4294967295)))
  have B5 := hid (st4_below (w.heap.size + 2) (0) (4294967295) (0) (4294967295) bel1.out (by omega))
  go_wp2_with fail
  obtain ⟨p0, p1, p2, p3⟩ := P5.out
  unfold st4 at p0 p1 p2 p3
  refine bodyPost_ret (v := rv (0) (4294967295) (0) (4294967295)) (by simp [results, Try.results43, go_sem, p0, p1, p2, p3]) rfl ⟨rfl, B5.out⟩

set_option maxRecDepth 100000 in
set_option maxHeartbeats 2000000 in
theorem c_sub_yes (a b c d e f g h : Nat) (w : World) (A : OkN a b c d) (B : OkN e f g h) (h1 : f ≤ a) :
    Calls Try.prog 43 #[rv a b c d, rv e f g h] w fun ee w' => ee = .returned (tv (a - f) (b - e) 0 4294967295) ∧ Below w.heap.size w w' := by
  have := A.le
  have := A.hi
  have := B.le
  have := B.hi
  have := A.b
  have := A.o
  have := B.b
  have := B.o
  have Ht : Hid (∀ w, Calls Try.prog 76 #[.int .i64 ((a : Int) - f), .int .i64 ((b : Int) - e)] w fun ee w' => ee = .returned (tv (a - f) (b - e) 0 4294967295) ∧ Below w.heap.size w w') := by
    intro w
    have this := c_fromTo (a - f) (b - e) w (by omega) (by omega)
    rw [show ((a - f : Nat) : Int) = (a : Int) - f by first | omega | rfl | simp, show ((b - e : Nat) : Int) = (b : Int) - e by first | omega | rfl | simp] at this
    exact this
  have h1' : ¬ (a : Int) < f := by omega
  have q1 : (a : Int) ≤ 4294967295 := by omega
  have q2 : (b : Int) ≤ 4294967295 := by omega
  have q3 : (e : Int) ≤ 4294967295 := by omega
  have q4 : (f : Int) ≤ 4294967295 := by omega
  clear A B h1
  have bQ0 := hid (twoQ w a b c d e f g h)
  have bel0 := hid (twoW w a b c d e f g h)
  go_enter Try.func43, Try.ntmps43
  go_wp2_with fail
  refine (Ht.out _).mono ?_
  rintro ee w1 ⟨rfl, hb1⟩
  have bQ1 := hid (bQ0.out.below hb1)
  have bel1 := hid (bel0.out.trans (hb1.mono bel0.out.size))
  clear hb1 bQ0 bel0
  obtain ⟨g0, g1, g2, g3⟩ := RBox.box bQ1.out
  have fq := RBox.frozen bQ1.out
  have P5 := hid (RBox.box (bQ1.out.st4 (x' := tLo (a - f) (b - e) (0)) (y' := tHi (a - f) (b - e) (0) (4294967295)) (z' := tB (a - f) (b - e) (0)) (u' := tO (a - f) (b - e) (4294967295))))
  have B5 := hid (st4_below (w.heap.size + 2) (tLo (a - f) (b - e) (0)) (tHi (a - f) (b - e) (0) (4294967295)) (tB (a - f) (b - e) (0)) (tO (a - f) (b - e) (4294967295)) bel1.out (by omega))
  go_wp2_with fail
  obtain ⟨p0, p1, p2, p3⟩ := P5.out
  unfold st4 at p0 p1 p2 p3
  refine bodyPost_ret (v := rv (tLo (a - f) (b - e) (0)) (tHi (a - f) (b - e) (0) (4294967295)) (tB (a - f) (b - e) (0)) (tO (a - f) (b - e) (4294967295))) (by simp [results, Try.results43, go_sem, p0, p1, p2, p3]) rfl ⟨rfl, B5.out⟩

set_option maxRecDepth 100000 in
set_option maxHeartbeats 2000000 in
theorem c_mul_no (a b c d e f g h : Nat) (w : World) (A : OkN a b c d) (B : OkN e f g h) (h1 : ¬ b * f ≤ 4294967295) :
    Calls Try.prog 44 #[rv a b c d, rv e f g h] w fun ee w' => ee = .returned (rv 0 4294967295 0 4294967295) ∧ Below w.heap.size w w' := by
  have := A.le
  have := A.hi
  have := B.le
  have := B.hi
  have := A.b
  have := A.o
  have := B.b
  have := B.o
  have q1 : (b : Int) ≤ 4294967295 := by omega
  have q2 : (f : Int) ≤ 4294967295 := by omega
  have p0 := Nat.mul_le_mul (show b ≤ 4294967295 by omega) (show f ≤ 4294967295 by omega)
  have hp : (b : Int) * (f : Int) = ((b * f : Nat) : Int) := by simp
  have hq : (a : Int) * (e : Int) = ((a * e : Nat) : Int) := by simp
  have hle : a * e ≤ b * f := Nat.mul_le_mul A.le B.le
  clear A B hq hle
  generalize b * f = P at *
  have h2 : (4294967295 : Int) < (P : Int) := by omega
  have h3 : (P : Int) ≤ 18446744065119617025 := by omega
  clear h1 p0
  have bQ0 := hid (twoQ w a b c d e f g h)
  have bel0 := hid (twoW w a b c d e f g h)
  go_enter Try.func44, Try.ntmps44
  go_wp2_with fail
  refine (c_allNumbers _).mono ?_
  rintro ee w1 ⟨rfl, hb1⟩
  have bQ1 := hid (bQ0.out.below hb1)
  have bel1 := hid (bel0.out.trans (hb1.mono bel0.out.size))
  clear hb1 bQ0 bel0
  obtain ⟨g0, g1, g2, g3⟩ := RBox.box bQ1.out
  have fq := RBox.frozen bQ1.out
  have P5 := hid (RBox.box (bQ1.out.st4 (x' := 0) (y' := 4294967295) (z' := 0) (u' := 4294967295)))
  have B5 := hid (st4_below (w.heap.size + 2) (0) (4294967295) (0) (4294967295) bel1.out (by omega))
  go_wp2_with fail
  obtain ⟨p0, p1, p2, p3⟩ := P5.out
  unfold st4 at p0 p1 p2 p3
  refine bodyPost_ret (v := rv (0) (4294967295) (0) (4294967295)) (by simp [results, Try.results44, go_sem, p0, p1, p2, p3]) rfl ⟨rfl, B5.out⟩

set_option maxRecDepth 100000 in
set_option maxHeartbeats 2000000 in
theorem c_mul_yes (a b c d e f g h : Nat) (w : World) (A : OkN a b c d) (B : OkN e f g h) (h1 : b * f ≤ 4294967295) :
    Calls Try.prog 44 #[rv a b c d, rv e f g h] w fun ee w' => ee = .returned (tv (a * e) (b * f) 0 4294967295) ∧ Below w.heap.size w w' := by
  have := A.le
  have := A.hi
  have := B.le
  have := B.hi
  have := A.b
  have := A.o
  have := B.b
  have := B.o
  have q1 : (b : Int) ≤ 4294967295 := by omega
  have q2 : (f : Int) ≤ 4294967295 := by omega
  have p0 := Nat.mul_le_mul (show b ≤ 4294967295 by omega) (show f ≤ 4294967295 by omega)
  have hp : (b : Int) * (f : Int) = ((b * f : Nat) : Int) := by simp
  have hq : (a : Int) * (e : Int) = ((a * e : Nat) : Int) := by simp
  have hle : a * e ≤ b * f := Nat.mul_le_mul A.le B.le
  have Ht : Hid (∀ w, Calls Try.prog 76 #[.int .i64 (((a * e : Nat) : Int)), .int .i64 (((b * f : Nat) : Int))] w fun ee w' => ee = .returned (tv (a * e) (b * f) 0 4294967295) ∧ Below w.heap.size w w') := by
    intro w
    have this := c_fromTo (a * e) (b * f) w (hle) (h1)
    rw [show ((a * e : Nat) : Int) = ((a * e : Nat) : Int) by first | omega | rfl | simp, show ((b * f : Nat) : Int) = ((b * f : Nat) : Int) by first | omega | rfl | simp] at this
    exact this
  clear A B
  generalize b * f = P at *
  generalize a * e = Q1 at *
  have h2 : (P : Int) ≤ 4294967295 := by omega
  have h3 : (Q1 : Int) ≤ 4294967295 := by omega
  clear h1 p0 hle
  have bQ0 := hid (twoQ w a b c d e f g h)
  have bel0 := hid (twoW w a b c d e f g h)
  go_enter Try.func44, Try.ntmps44
  go_wp2_with fail
  refine (Ht.out _).mono ?_
  rintro ee w1 ⟨rfl, hb1⟩
  have bQ1 := hid (bQ0.out.below hb1)
  have bel1 := hid (bel0.out.trans (hb1.mono bel0.out.size))
  clear hb1 bQ0 bel0
  obtain ⟨g0, g1, g2, g3⟩ := RBox.box bQ1.out
  have fq := RBox.frozen bQ1.out
  have P5 := hid (RBox.box (bQ1.out.st4 (x' := tLo (Q1) (P) (0)) (y' := tHi (Q1) (P) (0) (4294967295)) (z' := tB (Q1) (P) (0)) (u' := tO (Q1) (P) (4294967295))))
  have B5 := hid (st4_below (w.heap.size + 2) (tLo (Q1) (P) (0)) (tHi (Q1) (P) (0) (4294967295)) (tB (Q1) (P) (0)) (tO (Q1) (P) (4294967295)) bel1.out (by omega))
  go_wp2_with fail
  obtain ⟨p0, p1, p2, p3⟩ := P5.out
  unfold st4 at p0 p1 p2 p3
  refine bodyPost_ret (v := rv (tLo (Q1) (P) (0)) (tHi (Q1) (P) (0) (4294967295)) (tB (Q1) (P) (0)) (tO (Q1) (P) (4294967295))) (by simp [results, Try.results44, go_sem, p0, p1, p2, p3]) rfl ⟨rfl, B5.out⟩

set_option maxRecDepth 100000 in
set_option maxHeartbeats 2000000 in
theorem c_or (a b c d e f g h : Nat) {x y : Nat} (w : World) (A : OkN a b c d) (B : OkN e f g h) (X : OfN a b c d x) (Y : OfN e f g h y) :
    Calls Try.prog 46 #[rv a b c d, rv e f g h] w fun ee w' => ee = .returned (tv (max a e) 4294967295 (c ||| g) ((d ||| h) &&& notB (c ||| g))) ∧ Below w.heap.size w w' := by
  have := A.le
  have := A.hi
  have := B.le
  have := B.hi
  have := A.b
  have := A.o
  have := B.b
  have := B.o
  have e1 := or_i64 c g (by omega) (by omega)
  have l1 : c ||| g ≤ 4294967295 := or_le A.b B.b
  have e2 := or_i64 d h (by omega) (by omega)
  have l2 : d ||| h ≤ 4294967295 := or_le A.o B.o
  have e3 := andNot_i64 (d ||| h) (c ||| g) l2 l1
  have Ht : Hid (∀ w, Calls Try.prog 22 #[rv (max (a : Int) e) 4294967295 ((c ||| g : Nat) : Int) (((d ||| h) &&& notB (c ||| g) : Nat) : Int)] w fun ee w' => ee = .returned (tv (max a e) (4294967295) (c ||| g) ((d ||| h) &&& notB (c ||| g))) ∧ Below w.heap.size w w') := by
    intro w
    have this := tidyI _ _ _ _ (or_ok A B) (or_of A B X Y) w
    rw [show ((max a e : Nat) : Int) = max (a : Int) e by omega] at this
    exact this
  clear A B X Y
  generalize (d ||| h) &&& notB (c ||| g) = D2 at *
  generalize d ||| h = D1 at *
  generalize c ||| g = C at *
  have bQ0 := hid (twoQ w a b c d e f g h)
  have bel0 := hid (twoW w a b c d e f g h)
  go_enter Try.func46, Try.ntmps46
  go_wp2_with fail
  refine (Ht.out _).mono ?_
  rintro ee w1 ⟨rfl, hb1⟩
  have bQ1 := hid (bQ0.out.below hb1)
  have bel1 := hid (bel0.out.trans (hb1.mono bel0.out.size))
  clear hb1 bQ0 bel0
  obtain ⟨g0, g1, g2, g3⟩ := RBox.box bQ1.out
  have fq := RBox.frozen bQ1.out
  have P5 := hid (RBox.box (bQ1.out.st4 (x' := tLo (max a e) (4294967295) (C)) (y' := tHi (max a e) (4294967295) (C) (D2)) (z' := tB (max a e) (4294967295) (C)) (u' := tO (max a e) (4294967295) (D2))))
  have B5 := hid (st4_below (w.heap.size + 2) (tLo (max a e) (4294967295) (C)) (tHi (max a e) (4294967295) (C) (D2)) (tB (max a e) (4294967295) (C)) (tO (max a e) (4294967295) (D2)) bel1.out (by omega))
  go_wp2_with fail
  obtain ⟨p0, p1, p2, p3⟩ := P5.out
  unfold st4 at p0 p1 p2 p3
  refine bodyPost_ret (v := rv (tLo (max a e) (4294967295) (C)) (tHi (max a e) (4294967295) (C) (D2)) (tB (max a e) (4294967295) (C)) (tO (max a e) (4294967295) (D2))) (by simp [results, Try.results46, go_sem, p0, p1, p2, p3]) rfl ⟨rfl, B5.out⟩

set_option maxRecDepth 100000 in
set_option maxHeartbeats 2000000 in
theorem c_xor (a b c d e f g h : Nat) {x y : Nat} (w : World) (A : OkN a b c d) (B : OkN e f g h) (X : OfN a b c d x) (Y : OfN e f g h y) :
    Calls Try.prog 47 #[rv a b c d, rv e f g h] w fun ee w' => ee = .returned (tv 0 4294967295 ((c ^^^ g) &&& notB (d ||| h)) (d ||| h)) ∧ Below w.heap.size w w' := by
  have := A.le
  have := A.hi
  have := B.le
  have := B.hi
  have := A.b
  have := A.o
  have := B.b
  have := B.o
  have e1 := xor_i64 c g (by omega) (by omega)
  have l1 : c ^^^ g ≤ 4294967295 := xor_le A.b B.b
  have e2 := or_i64 d h (by omega) (by omega)
  have l2 : d ||| h ≤ 4294967295 := or_le A.o B.o
  have e3 := andNot_i64 (c ^^^ g) (d ||| h) l1 l2
  have Ht : Hid (∀ w, Calls Try.prog 22 #[rv 0 4294967295 (((c ^^^ g) &&& notB (d ||| h) : Nat) : Int) ((d ||| h : Nat) : Int)] w fun ee w' => ee = .returned (tv (0) (4294967295) ((c ^^^ g) &&& notB (d ||| h)) (d ||| h)) ∧ Below w.heap.size w w') := by
    intro w
    have this := tidyI _ _ _ _ (xor_ok A B) (xor_of A B X Y) w
    exact this
  clear A B X Y
  generalize (c ^^^ g) &&& notB (d ||| h) = C2 at *
  generalize d ||| h = D1 at *
  generalize c ^^^ g = C at *
  have bQ0 := hid (twoQ w a b c d e f g h)
  have bel0 := hid (twoW w a b c d e f g h)
  go_enter Try.func47, Try.ntmps47
  go_wp2_with fail
  refine (Ht.out _).mono ?_
  rintro ee w1 ⟨rfl, hb1⟩
  have bQ1 := hid (bQ0.out.below hb1)
  have bel1 := hid (bel0.out.trans (hb1.mono bel0.out.size))
  clear hb1 bQ0 bel0
  obtain ⟨g0, g1, g2, g3⟩ := RBox.box bQ1.out
  have fq := RBox.frozen bQ1.out
  have P5 := hid (RBox.box (bQ1.out.st4 (x' := tLo (0) (4294967295) (C2)) (y' := tHi (0) (4294967295) (C2) (D1)) (z' := tB (0) (4294967295) (C2)) (u' := tO (0) (4294967295) (D1))))
  have B5 := hid (st4_below (w.heap.size + 2) (tLo (0) (4294967295) (C2)) (tHi (0) (4294967295) (C2) (D1)) (tB (0) (4294967295) (C2)) (tO (0) (4294967295) (D1)) bel1.out (by omega))
  go_wp2_with fail
  obtain ⟨p0, p1, p2, p3⟩ := P5.out
  unfold st4 at p0 p1 p2 p3
  refine bodyPost_ret (v := rv (tLo (0) (4294967295) (C2)) (tHi (0) (4294967295) (C2) (D1)) (tB (0) (4294967295) (C2)) (tO (0) (4294967295) (D1))) (by simp [results, Try.results47, go_sem, p0, p1, p2, p3]) rfl ⟨rfl, B5.out⟩

set_option maxRecDepth 100000 in
set_option maxHeartbeats 2000000 in
theorem c_mod_same (a b c d e f g h : Nat) (w : World) (h1 : b < e) :
    Calls Try.prog 51 #[rv a b c d, rv e f g h] w fun ee w' => ee = .returned (rv a b c d) ∧ Below w.heap.size w w' := by
  have h1' : (b : Int) < e := by omega
  clear h1
  have bQ0 := hid (twoQ w a b c d e f g h)
  have bel0 := hid (twoW w a b c d e f g h)
  go_enter Try.func51, Try.ntmps51
  have P5 : Hid (RBox (((w.alloc (cellsR4 a b c d)).alloc (cellsR4 e f g h)).alloc (cellsR4 a b c d)) (w.heap.size + 2) a b c d) := by have h0 := RBox.new ((w.alloc (cellsR4 a b c d)).alloc (cellsR4 e f g h)) a b c d; simp only [World.size_alloc] at h0; exact h0
  have B5 := hid ((newB w (cellsR4 a b c d) (cellsR4 e f g h)).alloc (by simp; omega) (cellsR4 a b c d))
  go_wp2_with fail
  obtain ⟨p0, p1, p2, p3⟩ := RBox.box P5.out
  refine bodyPost_ret (v := rv a b c d) (by simp [results, Try.results51, go_sem, p0, p1, p2, p3]) rfl ⟨rfl, B5.out⟩

set_option maxRecDepth 100000 in
set_option maxHeartbeats 2000000 in
theorem c_mod_yes (a b c d e f g h : Nat) (w : World) (A : OkN a b c d) (B : OkN e f g h) (h1 : ¬ b < e) (h2 : 0 < e) :
    Calls Try.prog 51 #[rv a b c d, rv e f g h] w fun ee w' => ee = .returned (tv 0 (min (f - 1) b) 0 4294967295) ∧ Below w.heap.size w w' := by
  have := A.le
  have := A.hi
  have := B.le
  have := B.hi
  have := A.b
  have := A.o
  have := B.b
  have := B.o
  have Ht : Hid (∀ w, Calls Try.prog 76 #[.int .i64 (0), .int .i64 (min ((f : Int) - 1) b)] w fun ee w' => ee = .returned (tv (0) (min (f - 1) b) 0 4294967295) ∧ Below w.heap.size w w') := by
    intro w
    have this := c_fromTo (0) (min (f - 1) b) w (by omega) (by omega)
    rw [show ((0 : Nat) : Int) = 0 by first | omega | rfl | simp, show ((min (f - 1) b : Nat) : Int) = min ((f : Int) - 1) b by first | omega | rfl | simp] at this
    exact this
  have h1' : ¬ (b : Int) < e := by omega
  have h2' : (0 : Int) < e := by omega
  have q2 : (b : Int) ≤ 4294967295 := by omega
  have q3 : (e : Int) ≤ 4294967295 := by omega
  have q4 : (f : Int) ≤ 4294967295 := by omega
  have q5 : (1 : Int) ≤ f := by omega
  clear A B h1 h2
  have bQ0 := hid (twoQ w a b c d e f g h)
  have bel0 := hid (twoW w a b c d e f g h)
  go_enter Try.func51, Try.ntmps51
  go_wp2_with fail
  refine (Ht.out _).mono ?_
  rintro ee w1 ⟨rfl, hb1⟩
  have bQ1 := hid (bQ0.out.below hb1)
  have bel1 := hid (bel0.out.trans (hb1.mono bel0.out.size))
  clear hb1 bQ0 bel0
  obtain ⟨g0, g1, g2, g3⟩ := RBox.box bQ1.out
  have fq := RBox.frozen bQ1.out
  have P5 := hid (RBox.box (bQ1.out.st4 (x' := tLo (0) (min (f - 1) b) (0)) (y' := tHi (0) (min (f - 1) b) (0) (4294967295)) (z' := tB (0) (min (f - 1) b) (0)) (u' := tO (0) (min (f - 1) b) (4294967295))))
  have B5 := hid (st4_below (w.heap.size + 2) (tLo (0) (min (f - 1) b) (0)) (tHi (0) (min (f - 1) b) (0) (4294967295)) (tB (0) (min (f - 1) b) (0)) (tO (0) (min (f - 1) b) (4294967295)) bel1.out (by omega))
  go_wp2_with fail
  obtain ⟨p0, p1, p2, p3⟩ := P5.out
  unfold st4 at p0 p1 p2 p3
  refine bodyPost_ret (v := rv (tLo (0) (min (f - 1) b) (0)) (tHi (0) (min (f - 1) b) (0) (4294967295)) (tB (0) (min (f - 1) b) (0)) (tO (0) (min (f - 1) b) (4294967295))) (by simp [results, Try.results51, go_sem, p0, p1, p2, p3]) rfl ⟨rfl, B5.out⟩

set_option maxRecDepth 100000 in
set_option maxHeartbeats 2000000 in
theorem c_mod_zero (a b c d e f g h : Nat) (w : World) (A : OkN a b c d) (B : OkN e f g h) (h2 : e = 0) :
    Calls Try.prog 51 #[rv a b c d, rv e f g h] w fun ee w' => ee = .returned (tv 0 b 0 4294967295) ∧ Below w.heap.size w w' := by
  have := A.le
  have := A.hi
  have := B.le
  have := B.hi
  have := A.b
  have := A.o
  have := B.b
  have := B.o
  have Ht : Hid (∀ w, Calls Try.prog 76 #[.int .i64 (0), .int .i64 ((b : Int))] w fun ee w' => ee = .returned (tv (0) (b) 0 4294967295) ∧ Below w.heap.size w w') := by
    intro w
    have this := c_fromTo (0) (b) w (by omega) (by omega)
    rw [show ((0 : Nat) : Int) = 0 by first | omega | rfl | simp, show ((b : Nat) : Int) = (b : Int) by first | omega | rfl | simp] at this
    exact this
  subst h2
  have h1' : ¬ (b : Int) < 0 := by omega
  clear A B
  have bQ0 := hid (twoQ w a b c d (0 : Nat) f g h)
  have bel0 := hid (twoW w a b c d (0 : Nat) f g h)
  go_enter Try.func51, Try.ntmps51
  go_wp2_with fail
  refine (Ht.out _).mono ?_
  rintro ee w1 ⟨rfl, hb1⟩
  have bQ1 := hid (bQ0.out.below hb1)
  have bel1 := hid (bel0.out.trans (hb1.mono bel0.out.size))
  clear hb1 bQ0 bel0
  obtain ⟨g0, g1, g2, g3⟩ := RBox.box bQ1.out
  have fq := RBox.frozen bQ1.out
  have P5 := hid (RBox.box (bQ1.out.st4 (x' := tLo (0) (b) (0)) (y' := tHi (0) (b) (0) (4294967295)) (z' := tB (0) (b) (0)) (u' := tO (0) (b) (4294967295))))
  have B5 := hid (st4_below (w.heap.size + 2) (tLo (0) (b) (0)) (tHi (0) (b) (0) (4294967295)) (tB (0) (b) (0)) (tO (0) (b) (4294967295)) bel1.out (by omega))
  go_wp2_with fail
  obtain ⟨p0, p1, p2, p3⟩ := P5.out
  unfold st4 at p0 p1 p2 p3
  refine bodyPost_ret (v := rv (tLo (0) (b) (0)) (tHi (0) (b) (0) (4294967295)) (tB (0) (b) (0)) (tO (0) (b) (4294967295))) (by simp [results, Try.results51, go_sem, p0, p1, p2, p3]) rfl ⟨rfl, B5.out⟩

end Go.Proofs.Ytnebjocnbfoafaa
