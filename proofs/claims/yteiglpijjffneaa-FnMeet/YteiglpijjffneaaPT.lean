/- Contracts of the draws: any range; a range and a number. -/
import Derived.Test.YteiglpijjffneaaPS
namespace Go.Proofs.Yteiglpijjffneaa
open Go.RowKit
set_option linter.unusedVariables false
set_option linter.unusedSimpArgs false

theorem open_k (w : World) (a : Option Addr) (len cap : Nat) (hc : len ≤ cap) (hs : Src w a len) (hl : cap < 2 ^ 63) :
    Calls Try.prog 41 #[.slice a len cap] w fun e w' => ∃ (n : Nat), e = .returned (.pointer (some ⟨w.heap.size, 0, none⟩)) ∧ RS w w' w.heap.size a n cap 0 := open_s w a len cap hc hs hl

theorem Src.alloc {w : World} {a : Option Addr} {len : Nat} (h : Src w a len) (o : Obj) : Src (w.alloc o) a len := by
  rcases h with h0 | ⟨g, off, ha, hg, hc⟩
  · exact .inl h0
  · refine .inr ⟨g, off, ha, by simp; omega, fun j hj => ?_⟩
    obtain ⟨v, hv, hcv⟩ := hc j hj
    exact ⟨v, hv, (World.cell?_of_block (w := w) (Below.heap_alloc w o g hg)).trans hcv⟩
theorem Src.below {w w' : World} {a : Option Addr} {len : Nat} (h : Src w a len) (hb : Below w.heap.size w w') : Src w' a len := by
  rcases h with h0 | ⟨g, off, ha, hg, hc⟩
  · exact .inl h0
  · refine .inr ⟨g, off, ha, Nat.lt_of_lt_of_le hg hb.size, fun j hj => ?_⟩
    obtain ⟨v, hv, hcv⟩ := hc j hj
    exact ⟨v, hv, (hb.cell (p := ⟨g, off + j, none⟩) hg).trans hcv⟩

set_option maxRecDepth 100000 in
set_option maxHeartbeats 1000000 in
theorem drawRangeTidy_s (w : World) (a : Option Addr) (len cap : Nat) (hc : len ≤ cap) (hs : Src w a len) (hl : cap < 2 ^ 63) :
    Calls Try.prog 25 #[.slice a len cap] w fun e w' => (∃ (lo hi b o : Nat), e = .returned (rv lo hi b o) ∧ (lo ≤ 4294967295 ∧ hi ≤ 4294967295 ∧ b ≤ 4294967295 ∧ o ≤ 4294967295)) ∧ Below w.heap.size w w' := by
  have HS := hid (hs.alloc (cellsR4 0 0 0 0))
  have Q0 := hid (RBox.new w 0 0 0 0)
  have B0 := hid ((Below.refl _ w).alloc (Nat.le_refl _) (cellsR4 0 0 0 0))
  have hZ : w.heap.size < (w.alloc (cellsR4 0 0 0 0)).heap.size := by simp
  clear hs
  go_enter Try.func25, Try.ntmps25
  go_wp2_with fail
  generalize w.alloc (cellsR4 0 0 0 0) = wA at *
  refine (open_s _ a len cap hc HS.out hl).mono ?_
  rintro e w1 ⟨n, rfl, h1⟩
  have Q1 := hid (Q0.out.below h1.bel)
  have H1 := hid h1
  clear h1 HS Q0
  go_wp2_with fail
  refine (any_k H1.out (by omega)).mono ?_
  rintro e w2 ⟨lo, hi, b, o, q, rfl, les, hq, k2⟩
  have Q2 := hid (Q1.out.kept (by omega) k2)
  have B2 := hid (B0.out.trans (k2.rs.bel.mono (by omega)))
  clear k2 H1 Q1 B0
  obtain ⟨q0, q1', q2, q3⟩ := RBox.box Q2.out
  have fq := RBox.frozen Q2.out
  have P7 := hid (RBox.box (Q2.out.st4 (x' := lo) (y' := hi) (z' := b) (u' := o)))
  have K7 := hid (st4_below w.heap.size lo hi b o B2.out (Nat.le_refl _))
  clear Q2 B2
  go_wp2_with fail
  obtain ⟨p0, p1, p2, p3⟩ := P7.out
  unfold st4 at p0 p1 p2 p3
  refine bodyPost_ret (v := rv lo hi b o) (by simp [results, Try.results25, go_sem, p0, p1, p2, p3]) rfl ⟨⟨lo, hi, b, o, rfl, les⟩, K7.out⟩

set_option maxRecDepth 100000 in
set_option maxHeartbeats 1000000 in
theorem drawRangeSome_s (w : World) (a : Option Addr) (len cap : Nat) (hc : len ≤ cap) (hs : Src w a len) (hl : cap < 2 ^ 63) :
    Calls Try.prog 27 #[.slice a len cap] w fun e w' => (∃ (lo hi b o : Nat), e = .returned (rv lo hi b o) ∧ (lo ≤ 4294967295 ∧ hi ≤ 4294967295 ∧ b ≤ 4294967295 ∧ o ≤ 4294967295)) ∧ Below w.heap.size w w' := by
  have HS := hid (hs.alloc (cellsR4 0 0 0 0))
  have Q0 := hid (RBox.new w 0 0 0 0)
  have B0 := hid ((Below.refl _ w).alloc (Nat.le_refl _) (cellsR4 0 0 0 0))
  have hZ : w.heap.size < (w.alloc (cellsR4 0 0 0 0)).heap.size := by simp
  clear hs
  go_enter Try.func27, Try.ntmps27
  go_wp2_with fail
  generalize w.alloc (cellsR4 0 0 0 0) = wA at *
  refine (open_s _ a len cap hc HS.out hl).mono ?_
  rintro e w1 ⟨n, rfl, h1⟩
  have Q1 := hid (Q0.out.below h1.bel)
  have H1 := hid h1
  clear h1 HS Q0
  go_wp2_with fail
  refine (any_k H1.out (by omega)).mono ?_
  rintro e w2 ⟨lo, hi, b, o, q, rfl, les, hq, k2⟩
  have Q2 := hid (Q1.out.kept (by omega) k2)
  have B2 := hid (B0.out.trans (k2.rs.bel.mono (by omega)))
  clear k2 H1 Q1 B0
  obtain ⟨q0, q1', q2, q3⟩ := RBox.box Q2.out
  have fq := RBox.frozen Q2.out
  have P7 := hid (RBox.box (Q2.out.st4 (x' := lo) (y' := hi) (z' := b) (u' := o)))
  have K7 := hid (st4_below w.heap.size lo hi b o B2.out (Nat.le_refl _))
  clear Q2 B2
  go_wp2_with fail
  obtain ⟨p0, p1, p2, p3⟩ := P7.out
  unfold st4 at p0 p1 p2 p3
  refine bodyPost_ret (v := rv lo hi b o) (by simp [results, Try.results27, go_sem, p0, p1, p2, p3]) rfl ⟨⟨lo, hi, b, o, rfl, les⟩, K7.out⟩

set_option maxRecDepth 100000 in
set_option maxHeartbeats 1000000 in
theorem drawRangeLeast_s (w : World) (a : Option Addr) (len cap : Nat) (hc : len ≤ cap) (hs : Src w a len) (hl : cap < 2 ^ 63) :
    Calls Try.prog 30 #[.slice a len cap] w fun e w' => (∃ (lo hi b o : Nat), e = .returned (rv lo hi b o) ∧ (lo ≤ 4294967295 ∧ hi ≤ 4294967295 ∧ b ≤ 4294967295 ∧ o ≤ 4294967295)) ∧ Below w.heap.size w w' := by
  have HS := hid (hs.alloc (cellsR4 0 0 0 0))
  have Q0 := hid (RBox.new w 0 0 0 0)
  have B0 := hid ((Below.refl _ w).alloc (Nat.le_refl _) (cellsR4 0 0 0 0))
  have hZ : w.heap.size < (w.alloc (cellsR4 0 0 0 0)).heap.size := by simp
  clear hs
  go_enter Try.func30, Try.ntmps30
  go_wp2_with fail
  generalize w.alloc (cellsR4 0 0 0 0) = wA at *
  refine (open_s _ a len cap hc HS.out hl).mono ?_
  rintro e w1 ⟨n, rfl, h1⟩
  have Q1 := hid (Q0.out.below h1.bel)
  have H1 := hid h1
  clear h1 HS Q0
  go_wp2_with fail
  refine (any_k H1.out (by omega)).mono ?_
  rintro e w2 ⟨lo, hi, b, o, q, rfl, les, hq, k2⟩
  have Q2 := hid (Q1.out.kept (by omega) k2)
  have B2 := hid (B0.out.trans (k2.rs.bel.mono (by omega)))
  clear k2 H1 Q1 B0
  obtain ⟨q0, q1', q2, q3⟩ := RBox.box Q2.out
  have fq := RBox.frozen Q2.out
  have P7 := hid (RBox.box (Q2.out.st4 (x' := lo) (y' := hi) (z' := b) (u' := o)))
  have K7 := hid (st4_below w.heap.size lo hi b o B2.out (Nat.le_refl _))
  clear Q2 B2
  go_wp2_with fail
  obtain ⟨p0, p1, p2, p3⟩ := P7.out
  unfold st4 at p0 p1 p2 p3
  refine bodyPost_ret (v := rv lo hi b o) (by simp [results, Try.results30, go_sem, p0, p1, p2, p3]) rfl ⟨⟨lo, hi, b, o, rfl, les⟩, K7.out⟩

set_option maxRecDepth 100000 in
set_option maxHeartbeats 1000000 in
theorem drawRangeHas_s (w : World) (a : Option Addr) (len cap : Nat) (hc : len ≤ cap) (hs : Src w a len) (hl : cap < 2 ^ 63) :
    Calls Try.prog 22 #[.slice a len cap] w fun e w' => (∃ (lo hi b o n : Nat), e = .returned (.tuple #[rv lo hi b o, .int .i64 n]) ∧ (lo ≤ 4294967295 ∧ hi ≤ 4294967295 ∧ b ≤ 4294967295 ∧ o ≤ 4294967295) ∧ n ≤ 4294967295) ∧ Below w.heap.size w w' := by
  have HS := hid (hs.alloc (cellsR4 0 0 0 0))
  have Q0 := hid (RBox.new w 0 0 0 0)
  have B1 := hid ((Below.refl _ w).alloc (Nat.le_refl _) (cellsR4 0 0 0 0))
  have hZ : w.heap.size < (w.alloc (cellsR4 0 0 0 0)).heap.size := by simp
  clear hs
  go_enter Try.func22, Try.ntmps22
  go_wp2_with fail
  generalize w.alloc (cellsR4 0 0 0 0) = wA at *
  refine (open_s _ a len cap hc HS.out hl).mono ?_
  rintro e w1 ⟨n, rfl, h1⟩
  have Q1 := hid (Q0.out.below h1.bel)
  have H1 := hid h1
  clear h1 HS Q0
  go_wp2_with fail
  refine (range_k H1.out (by omega)).mono ?_
  rintro e w2 ⟨lo, hi, b, o, v, q, rfl, hok, hv, hq, k2⟩
  have les := hok.les
  have Q2 := hid ((Q1.out.kept (by omega) k2).alloc (cellsR4 lo hi b o))
  have hX0 := RBox.lt (Q1.out.kept (by omega) k2)
  have X2 := hid (RBox.new w2 lo hi b o)
  have H2 := hid (k2.alloc (cellsR4 lo hi b o))
  have hRX : wA.heap.size < w2.heap.size := k2.rs.lt
  clear k2 H1 Q1 hok
  go_wp2_with fail
  refine (pick_k H2.out.rs (by omega) 2 (by omega) (by omega)).mono ?_
  generalize w2.heap.size = X at *
  rintro e w3 ⟨kk, rfl, hkk, k3⟩
  have H3 := hid (H2.out.draw k3)
  have Q3 := hid (Q2.out.kept (by omega) k3)
  have X3 := hid (X2.out.kept (by omega) k3)
  clear k3 H2 Q2 X2 w2
  by_cases c0 : kk = 0
  · subst c0
    have B3 := hid (B1.out.trans (H3.out.rs.bel.mono (by omega)))
    obtain ⟨y0, y1, y2, y3⟩ := RBox.box X3.out
    obtain ⟨q0, q1', q2, q3⟩ := RBox.box Q3.out
    have fq := RBox.frozen Q3.out
    have P7 := hid (RBox.box (Q3.out.st4 (x' := lo) (y' := hi) (z' := b) (u' := o)))
    have K7 := hid (st4_below w.heap.size lo hi b o B3.out (Nat.le_refl _))
    clear Q3 X3 H3 B1 B3
    go_wp2_with fail
    obtain ⟨p0, p1, p2, p3⟩ := P7.out
    unfold st4 at p0 p1 p2 p3
    refine bodyPost_ret (v := .tuple #[rv lo hi b o, .int .i64 v]) (by simp [results, Try.results22, go_sem, p0, p1, p2, p3]) rfl ⟨⟨lo, hi, b, o, v, rfl, les, hv⟩, K7.out⟩
  have d0 : ((kk : Int) == 0) = false := by simp; omega
  go_wp2_with fail
  refine (any_k H3.out.rs (by omega)).mono ?_
  rintro e w4 ⟨lo4, hi4, b4, o4, q4, rfl, les4, hq4, k4⟩
  have H4 := hid (H3.out.draw k4)
  have Q4 := hid (Q3.out.kept (by omega) k4)
  clear k4 H3 Q3 X3
  go_wp2_with fail
  refine (number_k H4.out.rs (by omega)).mono ?_
  rintro e w5 ⟨n5, q5, rfl, hn5, hq5, k5⟩
  have H5 := hid (H4.out.draw k5)
  have Q5 := hid (Q4.out.kept (by omega) k5)
  clear k5 H4 Q4
  have B3 := hid (B1.out.trans (H5.out.rs.bel.mono (by omega)))
  obtain ⟨q0, q1', q2, q3⟩ := RBox.box Q5.out
  have fq := RBox.frozen Q5.out
  have P7 := hid (RBox.box (Q5.out.st4 (x' := lo4) (y' := hi4) (z' := b4) (u' := o4)))
  have K7 := hid (st4_below w.heap.size lo4 hi4 b4 o4 B3.out (Nat.le_refl _))
  clear Q5 H5 B1 B3
  go_wp2_with fail
  obtain ⟨p0, p1, p2, p3⟩ := P7.out
  unfold st4 at p0 p1 p2 p3
  refine bodyPost_ret (v := .tuple #[rv lo4 hi4 b4 o4, .int .i64 n5]) (by simp [results, Try.results22, go_sem, p0, p1, p2, p3]) rfl ⟨⟨lo4, hi4, b4, o4, n5, rfl, les4, hn5⟩, K7.out⟩
end Go.Proofs.Yteiglpijjffneaa
