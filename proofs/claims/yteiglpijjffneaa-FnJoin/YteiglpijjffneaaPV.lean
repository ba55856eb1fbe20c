/- Contracts of the draws: two ranges, opened. -/
import Derived.Test.YteiglpijjffneaaPU
namespace Go.Proofs.Yteiglpijjffneaa
open Go.RowKit
set_option linter.unusedVariables false
set_option linter.unusedSimpArgs false

set_option maxRecDepth 100000 in
set_option maxHeartbeats 4000000 in
theorem drawRangeMeet_s (w : World) (a : Option Addr) (len cap : Nat) (hc : len ≤ cap) (hs : Src w a len) (hl : cap < 2 ^ 63) :
    Calls Try.prog 31 #[.slice a len cap] w fun e w' => (∃ (lo hi b o lo' hi' b' o' : Nat), e = .returned (.tuple #[rv lo hi b o, rv lo' hi' b' o']) ∧ (lo ≤ 4294967295 ∧ hi ≤ 4294967295 ∧ b ≤ 4294967295 ∧ o ≤ 4294967295) ∧ (lo' ≤ 4294967295 ∧ hi' ≤ 4294967295 ∧ b' ≤ 4294967295 ∧ o' ≤ 4294967295)) ∧ Below w.heap.size w w' := by
  have HS := hid ((hs.alloc (cellsR4 0 0 0 0)).alloc (cellsR4 0 0 0 0))
  have P0 := hid ((RBox.new w 0 0 0 0).alloc (cellsR4 0 0 0 0))
  have Q0 : Hid (RBox ((w.alloc (cellsR4 0 0 0 0)).alloc (cellsR4 0 0 0 0)) (w.heap.size + 1) 0 0 0 0) := by
    have h0 := RBox.new (w.alloc (cellsR4 0 0 0 0)) 0 0 0 0
    simp only [World.size_alloc] at h0
    exact h0
  have B0 := hid (newB w (cellsR4 0 0 0 0) (cellsR4 0 0 0 0))
  clear hs
  go_enter Try.func31, Try.ntmps31
  go_wp2_with fail
  generalize (w.alloc (cellsR4 0 0 0 0)).alloc (cellsR4 0 0 0 0) = wA at *
  have hZ := RBox.lt Q0.out
  refine (open_s _ a len cap hc HS.out hl).mono ?_
  rintro e w1 ⟨n, rfl, h1⟩
  have P1 := hid (P0.out.below h1.bel)
  have Q1 := hid (Q0.out.below h1.bel)
  have H1 := hid h1
  clear h1 HS P0 Q0
  go_wp2_with fail
  refine (two_k H1.out (by omega)).mono ?_
  rintro e w2 ⟨lo, hi, b, o, lo', hi', b', o', q, rfl, les, les', k2⟩
  have P2 := hid (P1.out.kept (by omega) k2)
  have Q2 := hid (Q1.out.kept (by omega) k2)
  have B2 := hid (B0.out.trans (k2.rs.bel.mono (by omega)))
  clear k2 H1 P1 Q1 B0
  have fp := RBox.frozen P2.out
  have fq := RBox.frozen Q2.out
  obtain ⟨g0, g1, g2, g3⟩ := RBox.box P2.out
  obtain ⟨q0, q1, q2, q3⟩ := RBox.box Q2.out
  have P3 := P2.out.st4 (x' := lo) (y' := hi) (z' := b) (u' := o)
  have Q3 := Q2.out.st4o (k := w.heap.size) (by omega) lo hi b o
  have B3 := st4_below w.heap.size lo hi b o B2.out (Nat.le_refl _)
  have fq3 := RBox.frozen Q3
  obtain ⟨s0, s1, s2, s3⟩ := RBox.box Q3
  have P4 := hid (RBox.box (P3.st4o (k := w.heap.size + 1) (by omega) lo' hi' b' o'))
  have Q4 := hid (RBox.box (Q3.st4 (x' := lo') (y' := hi') (z' := b') (u' := o')))
  have B4 := hid (st4_below (w.heap.size + 1) lo' hi' b' o' B3 (by omega))
  unfold st4 at fq3 s0 s1 s2 s3
  clear P2 Q2 B2 P3 Q3 B3
  go_wp2_with fail
  obtain ⟨p0, p1, p2, p3⟩ := P4.out
  obtain ⟨r0, r1, r2, r3⟩ := Q4.out
  unfold st4 at p0 p1 p2 p3 r0 r1 r2 r3
  refine bodyPost_ret (v := .tuple #[rv lo hi b o, rv lo' hi' b' o']) (by simp [results, Try.results31, go_sem, p0, p1, p2, p3, r0, r1, r2, r3]) rfl ⟨⟨lo, hi, b, o, lo', hi', b', o', rfl, les, les'⟩, B4.out⟩

set_option maxRecDepth 100000 in
set_option maxHeartbeats 4000000 in
theorem drawRangeJoin_s (w : World) (a : Option Addr) (len cap : Nat) (hc : len ≤ cap) (hs : Src w a len) (hl : cap < 2 ^ 63) :
    Calls Try.prog 34 #[.slice a len cap] w fun e w' => (∃ (lo hi b o lo' hi' b' o' : Nat), e = .returned (.tuple #[rv lo hi b o, rv lo' hi' b' o']) ∧ (lo ≤ 4294967295 ∧ hi ≤ 4294967295 ∧ b ≤ 4294967295 ∧ o ≤ 4294967295) ∧ (lo' ≤ 4294967295 ∧ hi' ≤ 4294967295 ∧ b' ≤ 4294967295 ∧ o' ≤ 4294967295)) ∧ Below w.heap.size w w' := by
  have HS := hid ((hs.alloc (cellsR4 0 0 0 0)).alloc (cellsR4 0 0 0 0))
  have P0 := hid ((RBox.new w 0 0 0 0).alloc (cellsR4 0 0 0 0))
  have Q0 : Hid (RBox ((w.alloc (cellsR4 0 0 0 0)).alloc (cellsR4 0 0 0 0)) (w.heap.size + 1) 0 0 0 0) := by
    have h0 := RBox.new (w.alloc (cellsR4 0 0 0 0)) 0 0 0 0
    simp only [World.size_alloc] at h0
    exact h0
  have B0 := hid (newB w (cellsR4 0 0 0 0) (cellsR4 0 0 0 0))
  clear hs
  go_enter Try.func34, Try.ntmps34
  go_wp2_with fail
  generalize (w.alloc (cellsR4 0 0 0 0)).alloc (cellsR4 0 0 0 0) = wA at *
  have hZ := RBox.lt Q0.out
  refine (open_s _ a len cap hc HS.out hl).mono ?_
  rintro e w1 ⟨n, rfl, h1⟩
  have P1 := hid (P0.out.below h1.bel)
  have Q1 := hid (Q0.out.below h1.bel)
  have H1 := hid h1
  clear h1 HS P0 Q0
  go_wp2_with fail
  refine (two_k H1.out (by omega)).mono ?_
  rintro e w2 ⟨lo, hi, b, o, lo', hi', b', o', q, rfl, les, les', k2⟩
  have P2 := hid (P1.out.kept (by omega) k2)
  have Q2 := hid (Q1.out.kept (by omega) k2)
  have B2 := hid (B0.out.trans (k2.rs.bel.mono (by omega)))
  clear k2 H1 P1 Q1 B0
  have fp := RBox.frozen P2.out
  have fq := RBox.frozen Q2.out
  obtain ⟨g0, g1, g2, g3⟩ := RBox.box P2.out
  obtain ⟨q0, q1, q2, q3⟩ := RBox.box Q2.out
  have P3 := P2.out.st4 (x' := lo) (y' := hi) (z' := b) (u' := o)
  have Q3 := Q2.out.st4o (k := w.heap.size) (by omega) lo hi b o
  have B3 := st4_below w.heap.size lo hi b o B2.out (Nat.le_refl _)
  have fq3 := RBox.frozen Q3
  obtain ⟨s0, s1, s2, s3⟩ := RBox.box Q3
  have P4 := hid (RBox.box (P3.st4o (k := w.heap.size + 1) (by omega) lo' hi' b' o'))
  have Q4 := hid (RBox.box (Q3.st4 (x' := lo') (y' := hi') (z' := b') (u' := o')))
  have B4 := hid (st4_below (w.heap.size + 1) lo' hi' b' o' B3 (by omega))
  unfold st4 at fq3 s0 s1 s2 s3
  clear P2 Q2 B2 P3 Q3 B3
  go_wp2_with fail
  obtain ⟨p0, p1, p2, p3⟩ := P4.out
  obtain ⟨r0, r1, r2, r3⟩ := Q4.out
  unfold st4 at p0 p1 p2 p3 r0 r1 r2 r3
  refine bodyPost_ret (v := .tuple #[rv lo hi b o, rv lo' hi' b' o']) (by simp [results, Try.results34, go_sem, p0, p1, p2, p3, r0, r1, r2, r3]) rfl ⟨⟨lo, hi, b, o, lo', hi', b', o', rfl, les, les'⟩, B4.out⟩

set_option maxRecDepth 100000 in
set_option maxHeartbeats 4000000 in
theorem drawRangeIn_s (w : World) (a : Option Addr) (len cap : Nat) (hc : len ≤ cap) (hs : Src w a len) (hl : cap < 2 ^ 63) :
    Calls Try.prog 38 #[.slice a len cap] w fun e w' => (∃ (lo hi b o lo' hi' b' o' : Nat), e = .returned (.tuple #[rv lo hi b o, rv lo' hi' b' o']) ∧ (lo ≤ 4294967295 ∧ hi ≤ 4294967295 ∧ b ≤ 4294967295 ∧ o ≤ 4294967295) ∧ (lo' ≤ 4294967295 ∧ hi' ≤ 4294967295 ∧ b' ≤ 4294967295 ∧ o' ≤ 4294967295)) ∧ Below w.heap.size w w' := by
  have HS := hid ((hs.alloc (cellsR4 0 0 0 0)).alloc (cellsR4 0 0 0 0))
  have P0 := hid ((RBox.new w 0 0 0 0).alloc (cellsR4 0 0 0 0))
  have Q0 : Hid (RBox ((w.alloc (cellsR4 0 0 0 0)).alloc (cellsR4 0 0 0 0)) (w.heap.size + 1) 0 0 0 0) := by
    have h0 := RBox.new (w.alloc (cellsR4 0 0 0 0)) 0 0 0 0
    simp only [World.size_alloc] at h0
    exact h0
  have B0 := hid (newB w (cellsR4 0 0 0 0) (cellsR4 0 0 0 0))
  clear hs
  go_enter Try.func38, Try.ntmps38
  go_wp2_with fail
  generalize (w.alloc (cellsR4 0 0 0 0)).alloc (cellsR4 0 0 0 0) = wA at *
  have hZ := RBox.lt Q0.out
  refine (open_s _ a len cap hc HS.out hl).mono ?_
  rintro e w1 ⟨n, rfl, h1⟩
  have P1 := hid (P0.out.below h1.bel)
  have Q1 := hid (Q0.out.below h1.bel)
  have H1 := hid h1
  clear h1 HS P0 Q0
  go_wp2_with fail
  refine (two_k H1.out (by omega)).mono ?_
  rintro e w2 ⟨lo, hi, b, o, lo', hi', b', o', q, rfl, les, les', k2⟩
  have P2 := hid (P1.out.kept (by omega) k2)
  have Q2 := hid (Q1.out.kept (by omega) k2)
  have B2 := hid (B0.out.trans (k2.rs.bel.mono (by omega)))
  clear k2 H1 P1 Q1 B0
  have fp := RBox.frozen P2.out
  have fq := RBox.frozen Q2.out
  obtain ⟨g0, g1, g2, g3⟩ := RBox.box P2.out
  obtain ⟨q0, q1, q2, q3⟩ := RBox.box Q2.out
  have P3 := P2.out.st4 (x' := lo) (y' := hi) (z' := b) (u' := o)
  have Q3 := Q2.out.st4o (k := w.heap.size) (by omega) lo hi b o
  have B3 := st4_below w.heap.size lo hi b o B2.out (Nat.le_refl _)
  have fq3 := RBox.frozen Q3
  obtain ⟨s0, s1, s2, s3⟩ := RBox.box Q3
  have P4 := hid (RBox.box (P3.st4o (k := w.heap.size + 1) (by omega) lo' hi' b' o'))
  have Q4 := hid (RBox.box (Q3.st4 (x' := lo') (y' := hi') (z' := b') (u' := o')))
  have B4 := hid (st4_below (w.heap.size + 1) lo' hi' b' o' B3 (by omega))
  unfold st4 at fq3 s0 s1 s2 s3
  clear P2 Q2 B2 P3 Q3 B3
  go_wp2_with fail
  obtain ⟨p0, p1, p2, p3⟩ := P4.out
  obtain ⟨r0, r1, r2, r3⟩ := Q4.out
  unfold st4 at p0 p1 p2 p3 r0 r1 r2 r3
  refine bodyPost_ret (v := .tuple #[rv lo hi b o, rv lo' hi' b' o']) (by simp [results, Try.results38, go_sem, p0, p1, p2, p3, r0, r1, r2, r3]) rfl ⟨⟨lo, hi, b, o, lo', hi', b', o', rfl, les, les'⟩, B4.out⟩
end Go.Proofs.Yteiglpijjffneaa
