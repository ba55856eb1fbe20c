/- The draw of an op. -/
import Derived.Test.YtbbecofgmodfiaaGreatDoorKP
namespace Go.Proofs.YtbbecofgmodfiaaGreatDoor
open Go.RowKit
set_option linter.unusedVariables false
set_option linter.unusedSimpArgs false

theorem Src.alloc {w : World} {a : Option Addr} {len : Nat} (h : Src w a len) (o : Obj) : Src (w.alloc o) a len := by
  rcases h with h | ⟨g, off, ha, hg, hc⟩
  · exact .inl h
  · refine .inr ⟨g, off, ha, by simp; omega, fun j hj => ?_⟩
    obtain ⟨v, hv, hcv⟩ := hc j hj
    exact ⟨v, hv, (Below.cell ((Below.refl _ w).alloc (Nat.le_refl _) o) (p := ⟨g, off + j, none⟩) hg).trans hcv⟩

set_option maxRecDepth 100000 in
set_option maxHeartbeats 4000000 in
theorem ins_k {w0 w : World} {B : Nat} {a : Option Addr} {len cap p : Nat} (h : RS w0 w B a len cap p) (hp : p ≤ 500000) :
    Calls Tryz.prog 11 #[.pointer (some ⟨B, 0, none⟩)] w fun e w' => AnX e ∧ ∃ q, q ≤ p + 460 ∧ K3 w0 w w' B a len cap q := by
  have H := hid h
  have lB := h.lt
  clear h
  go_enter Tryz.func11, Tryz.ntmps11
  go_wp2_with fail
  have HQ : Hid (Box6 (w.alloc (.cells #[.int .i64 0, .int .i64 0, .int .i64 0, .int .i64 0, .int .i64 0, .int .i64 0] 24)) w.heap.size 0 0 0 0 0 0) := World.alloc_heap_new w _
  have HD := hid ((K3.start H.out).alloc (.cells #[.int .i64 0, .int .i64 0, .int .i64 0, .int .i64 0, .int .i64 0, .int .i64 0] 24))
  clear H
  generalize w.alloc (.cells #[.int .i64 0, .int .i64 0, .int .i64 0, .int .i64 0, .int .i64 0, .int .i64 0] 24) = w1 at *
  refine (prog_k HD.out.rs (by omega)).mono ?_
  rintro e w2 ⟨⟨xs, x, n, c, rfl, hxl, hn1, hn2, hr⟩, q, hq, kk⟩
  have HR := hid hr
  replace HQ := hid (HQ.out.k3 (by omega) kk)
  replace HD := hid (HD.out.draw kk)
  have HL := hid hxl
  clear hr kk hxl
  obtain ⟨g, rfl⟩ := own_pos HR.out (by omega)
  have hn1' : (1 : Int) ≤ (n : Int) := by omega
  have hn2' : (n : Int) ≤ 41 := by omega
  go_wp2_with fail
  refine (pick_k HD.out.rs (by omega) _ (by omega) (by omega)).mono ?_
  rintro e w3 ⟨k, rfl, hk, kk⟩
  replace HR := hid (row_kept (by decide) HD.out.rs kk HR.out)
  replace HQ := hid (HQ.out.k3 (by omega) kk)
  replace HD := hid (HD.out.draw kk)
  clear kk
  have hk0 : (0 : Int) ≤ (k : Int) := by omega
  have hkx : k < xs.length := by have := HL.out; omega
  have hc : ∀ j, j < n * 6 → w3.cell? ⟨g, j, none⟩ = (flat xs)[j]? := fun j hj => HR.out.cellAt j hj
  have lg := (own_cap HR.out).2.2.2
  obtain ⟨y0, y1, y2, y3, y4, y5⟩ := flat_at xs k hkx
  have c0 := (hc (k * 6) (by omega)).trans y0
  have c1 := (hc (k * 6 + 1) (by omega)).trans y1
  have c2 := (hc (k * 6 + 2) (by omega)).trans y2
  have c3 := (hc (k * 6 + 3) (by omega)).trans y3
  have c4 := (hc (k * 6 + 4) (by omega)).trans y4
  have c5 := (hc (k * 6 + 5) (by omega)).trans y5
  clear hc y0 y1 y2 y3 y4 y5
  generalize xs[k] = y at *
  have K5 := hid (K3.st6b HD.out w.heap.size (Nat.le_refl _) (y.o) (y.d) (y.s) (y.f) (y.i) (y.z))
  have P5 := hid (Box6.cells (Box6.st HQ.out (y.o) (y.d) (y.s) (y.f) (y.i) (y.z)))
  obtain ⟨q0, q1, q2, q3, q4, q5⟩ := Box6.cells HQ.out
  have ql := Box6.lt HQ.out
  have qf := Box6.frozen HQ.out
  go_wp2_with fail
  obtain ⟨r0, r1, r2, r3, r4, r5⟩ := P5.out
  unfold st6b at r0 r1 r2 r3 r4 r5
  refine bodyPost_ret (v := .agg #[.int .i64 (y.o), .int .i64 (y.d), .int .i64 (y.s), .int .i64 (y.f), .int .i64 (y.i), .int .i64 (y.z)]) (by simp [results, Tryz.results11, go_sem, r0, r1, r2, r3, r4, r5]) rfl ?_
  exact ⟨⟨_, _, _, _, _, _, rfl⟩, _, by omega, K5.out⟩
end Go.Proofs.YtbbecofgmodfiaaGreatDoor
