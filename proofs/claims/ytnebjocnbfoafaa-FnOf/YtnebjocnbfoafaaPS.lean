/- Contracts of the draws: any range; a range and a number. -/
import Derived.Test.YtnebjocnbfoafaaPR
namespace Go.Proofs.Ytnebjocnbfoafaa
open Go.RowKit
set_option linter.unusedVariables false
set_option linter.unusedSimpArgs false

theorem OkN.les {lo hi b o : Nat} (h : OkN lo hi b o) : lo ≤ 4294967295 ∧ hi ≤ 4294967295 ∧ b ≤ 4294967295 ∧ o ≤ 4294967295 := ⟨h.lo, h.hi, h.b, h.o⟩

set_option maxRecDepth 100000 in
set_option maxHeartbeats 4000000 in
theorem any_k {w0 w : World} {B : Nat} {a : Option Addr} {len cap p : Nat} (h : RS w0 w B a len cap p) (hp : p ≤ 700000) :
    Calls Try.prog 17 #[.pointer (some ⟨B, 0, none⟩)] w fun e w' => ∃ (lo hi b o q : Nat), e = .returned (rv lo hi b o) ∧ (lo ≤ 4294967295 ∧ hi ≤ 4294967295 ∧ b ≤ 4294967295 ∧ o ≤ 4294967295) ∧ q ≤ p + 200 ∧ K3 w0 w w' B a len cap q := by
  have H0 := hid ((K3.start h).alloc (.cells #[.int .i64 0, .int .i64 0, .int .i64 0, .int .i64 0] 24))
  have Q0 := hid (RBox.new w 0 0 0 0)
  have hB : B < w.heap.size := h.lt
  clear h
  go_enter Try.func17, Try.ntmps17
  go_wp2_with fail
  refine (range_k H0.out.rs (by omega)).mono ?_
  rintro e w1 ⟨lo, hi, b, o, v, q, rfl, hok, hv, hq, k1⟩
  have H1 := hid ((H0.out.draw k1).alloc (cellsR4 lo hi b o))
  have Q1 := hid ((Q0.out.kept (by omega) k1).alloc (cellsR4 lo hi b o))
  have hX0 := RBox.lt (Q0.out.kept (by omega) k1)
  have X1 := hid (RBox.new w1 lo hi b o)
  have les := hok.les
  clear k1 H0 Q0 hok
  go_wp2_with fail
  refine (pick_k H1.out.rs (by omega) 10 (by omega) (by omega)).mono ?_
  generalize w1.heap.size = X at *
  rintro e w3 ⟨kk, rfl, hkk, k3⟩
  have H3 := hid (H1.out.draw k3)
  have Q3 := hid (Q1.out.kept (by omega) k3)
  have X3 := hid (X1.out.kept (by omega) k3)
  clear k3 H1 Q1 X1 w1
  have hq1 : q + 1 + 3 ≤ p + 200 := by omega
  have hq2 : q + 1 ≤ p + 200 := by omega
  have hq3 : q + 1 ≤ 900000 := by omega
  by_cases c0 : kk = 0
  · subst c0
    go_wp2_with fail
    refine (number_k H3.out.rs hq3).mono ?_
    rintro e w4 ⟨n, q4, rfl, hn, hq4, k4⟩
    have H4 := hid (H3.out.draw k4)
    have Q4 := hid (Q3.out.kept (by omega) k4)
    have X4 := hid (X3.out.kept (by omega) k4)
    clear k4 H3 Q3 X3
    have hqf : q4 ≤ p + 200 := Nat.le_trans hq4 hq1
    have fx := RBox.frozen X4.out
    obtain ⟨g0, g1, g2, g3⟩ := RBox.box X4.out
    have X6 := X4.out.set0 n
    have Q6 := Q4.out.other ⟨X, 0, none⟩ (.int .i64 n) (show w.heap.size ≠ X by omega)
    have K6 := hid (H4.out.set ⟨X, 0, none⟩ (.int .i64 n) (show w.heap.size ≤ X by omega))
    have fq := RBox.frozen Q6
    obtain ⟨y0, y1, y2, y3⟩ := RBox.box X6
    obtain ⟨q0, q1', q2, q3⟩ := RBox.box Q6
    have P7 := hid (RBox.box (Q6.st4 (x' := (n : Nat)) (y' := (hi : Nat)) (z' := (b : Nat)) (u' := (o : Nat))))
    have K7 := hid (K6.out.st4 w.heap.size (n : Nat) (hi : Nat) (b : Nat) (o : Nat) (Nat.le_refl _))
    clear X6 Q6 K6 X4 Q4 H4
    go_wp2_with fail
    obtain ⟨p0, p1, p2, p3⟩ := P7.out
    unfold st4 at p0 p1 p2 p3
    refine bodyPost_ret (v := rv (n : Nat) (hi : Nat) (b : Nat) (o : Nat)) (by simp [results, Try.results17, go_sem, p0, p1, p2, p3]) rfl ⟨n, hi, b, o, _, rfl, ⟨hn, les.2.1, les.2.2.1, les.2.2.2⟩, hqf, K7.out⟩
  by_cases c1 : kk = 1
  · subst c1
    go_wp2_with fail
    refine (number_k H3.out.rs hq3).mono ?_
    rintro e w4 ⟨n, q4, rfl, hn, hq4, k4⟩
    have H4 := hid (H3.out.draw k4)
    have Q4 := hid (Q3.out.kept (by omega) k4)
    have X4 := hid (X3.out.kept (by omega) k4)
    clear k4 H3 Q3 X3
    have hqf : q4 ≤ p + 200 := Nat.le_trans hq4 hq1
    have fx := RBox.frozen X4.out
    obtain ⟨g0, g1, g2, g3⟩ := RBox.box X4.out
    have X6 := X4.out.set1 n
    have Q6 := Q4.out.other ⟨X, 1, none⟩ (.int .i64 n) (show w.heap.size ≠ X by omega)
    have K6 := hid (H4.out.set ⟨X, 1, none⟩ (.int .i64 n) (show w.heap.size ≤ X by omega))
    have fq := RBox.frozen Q6
    obtain ⟨y0, y1, y2, y3⟩ := RBox.box X6
    obtain ⟨q0, q1', q2, q3⟩ := RBox.box Q6
    have P7 := hid (RBox.box (Q6.st4 (x' := (lo : Nat)) (y' := (n : Nat)) (z' := (b : Nat)) (u' := (o : Nat))))
    have K7 := hid (K6.out.st4 w.heap.size (lo : Nat) (n : Nat) (b : Nat) (o : Nat) (Nat.le_refl _))
    clear X6 Q6 K6 X4 Q4 H4
    go_wp2_with fail
    obtain ⟨p0, p1, p2, p3⟩ := P7.out
    unfold st4 at p0 p1 p2 p3
    refine bodyPost_ret (v := rv (lo : Nat) (n : Nat) (b : Nat) (o : Nat)) (by simp [results, Try.results17, go_sem, p0, p1, p2, p3]) rfl ⟨lo, n, b, o, _, rfl, ⟨les.1, hn, les.2.2.1, les.2.2.2⟩, hqf, K7.out⟩
  by_cases c2 : kk = 2
  · subst c2
    go_wp2_with fail
    refine (number_k H3.out.rs hq3).mono ?_
    rintro e w4 ⟨n, q4, rfl, hn, hq4, k4⟩
    have H4 := hid (H3.out.draw k4)
    have Q4 := hid (Q3.out.kept (by omega) k4)
    have X4 := hid (X3.out.kept (by omega) k4)
    clear k4 H3 Q3 X3
    have hqf : q4 ≤ p + 200 := Nat.le_trans hq4 hq1
    have fx := RBox.frozen X4.out
    obtain ⟨g0, g1, g2, g3⟩ := RBox.box X4.out
    have X6 := X4.out.set2 n
    have Q6 := Q4.out.other ⟨X, 2, none⟩ (.int .i64 n) (show w.heap.size ≠ X by omega)
    have K6 := hid (H4.out.set ⟨X, 2, none⟩ (.int .i64 n) (show w.heap.size ≤ X by omega))
    have fq := RBox.frozen Q6
    obtain ⟨y0, y1, y2, y3⟩ := RBox.box X6
    obtain ⟨q0, q1', q2, q3⟩ := RBox.box Q6
    have P7 := hid (RBox.box (Q6.st4 (x' := (lo : Nat)) (y' := (hi : Nat)) (z' := (n : Nat)) (u' := (o : Nat))))
    have K7 := hid (K6.out.st4 w.heap.size (lo : Nat) (hi : Nat) (n : Nat) (o : Nat) (Nat.le_refl _))
    clear X6 Q6 K6 X4 Q4 H4
    go_wp2_with fail
    obtain ⟨p0, p1, p2, p3⟩ := P7.out
    unfold st4 at p0 p1 p2 p3
    refine bodyPost_ret (v := rv (lo : Nat) (hi : Nat) (n : Nat) (o : Nat)) (by simp [results, Try.results17, go_sem, p0, p1, p2, p3]) rfl ⟨lo, hi, n, o, _, rfl, ⟨les.1, les.2.1, hn, les.2.2.2⟩, hqf, K7.out⟩
  by_cases c3 : kk = 3
  · subst c3
    go_wp2_with fail
    refine (number_k H3.out.rs hq3).mono ?_
    rintro e w4 ⟨n, q4, rfl, hn, hq4, k4⟩
    have H4 := hid (H3.out.draw k4)
    have Q4 := hid (Q3.out.kept (by omega) k4)
    have X4 := hid (X3.out.kept (by omega) k4)
    clear k4 H3 Q3 X3
    have hqf : q4 ≤ p + 200 := Nat.le_trans hq4 hq1
    have fx := RBox.frozen X4.out
    obtain ⟨g0, g1, g2, g3⟩ := RBox.box X4.out
    have X6 := X4.out.set3 n
    have Q6 := Q4.out.other ⟨X, 3, none⟩ (.int .i64 n) (show w.heap.size ≠ X by omega)
    have K6 := hid (H4.out.set ⟨X, 3, none⟩ (.int .i64 n) (show w.heap.size ≤ X by omega))
    have fq := RBox.frozen Q6
    obtain ⟨y0, y1, y2, y3⟩ := RBox.box X6
    obtain ⟨q0, q1', q2, q3⟩ := RBox.box Q6
    have P7 := hid (RBox.box (Q6.st4 (x' := (lo : Nat)) (y' := (hi : Nat)) (z' := (b : Nat)) (u' := (n : Nat))))
    have K7 := hid (K6.out.st4 w.heap.size (lo : Nat) (hi : Nat) (b : Nat) (n : Nat) (Nat.le_refl _))
    clear X6 Q6 K6 X4 Q4 H4
    go_wp2_with fail
    obtain ⟨p0, p1, p2, p3⟩ := P7.out
    unfold st4 at p0 p1 p2 p3
    refine bodyPost_ret (v := rv (lo : Nat) (hi : Nat) (b : Nat) (n : Nat)) (by simp [results, Try.results17, go_sem, p0, p1, p2, p3]) rfl ⟨lo, hi, b, n, _, rfl, ⟨les.1, les.2.1, les.2.2.1, hn⟩, hqf, K7.out⟩
  have d0 : ((kk : Int) == 0) = false := by simp; omega
  have d1 : ((kk : Int) == 1) = false := by simp; omega
  have d2 : ((kk : Int) == 2) = false := by simp; omega
  have d3 : ((kk : Int) == 3) = false := by simp; omega
  obtain ⟨y0, y1, y2, y3⟩ := RBox.box X3.out
  obtain ⟨q0, q1', q2, q3⟩ := RBox.box Q3.out
  have fq := RBox.frozen Q3.out
  have P7 := hid (RBox.box (Q3.out.st4 (x' := lo) (y' := hi) (z' := b) (u' := o)))
  have K7 := hid (H3.out.st4 w.heap.size lo hi b o (Nat.le_refl _))
  clear Q3 X3 H3
  go_wp2_with fail
  obtain ⟨p0, p1, p2, p3⟩ := P7.out
  unfold st4 at p0 p1 p2 p3
  refine bodyPost_ret (v := rv lo hi b o) (by simp [results, Try.results17, go_sem, p0, p1, p2, p3]) rfl ⟨lo, hi, b, o, _, rfl, les, hq2, K7.out⟩

end Go.Proofs.Ytnebjocnbfoafaa
