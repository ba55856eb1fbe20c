/- The draw of an op, as DrawLinePut has it. -/
import Derived.Test.YtbbecofgmodfiaaGreatDoorKI
namespace Go.Proofs.YtbbecofgmodfiaaGreatDoor
open Go.RowKit
set_option linter.unusedVariables false
set_option linter.unusedSimpArgs false

set_option maxRecDepth 100000 in
set_option maxHeartbeats 4000000 in
theorem drawLinePut_w (w : World) (a : Option Addr) (len cap : Nat) (hc : len ≤ cap) (hs : Src w a len) (hl : cap < 2 ^ 63) :
    Calls Tryz.prog 5 #[.slice a len cap] w fun e w' => AnX e ∧ Below w.heap.size w w' := by
  have HS := hid hs
  clear hs
  go_enter Tryz.func5, Tryz.ntmps5
  go_wp2_with fail
  have HQ : Hid (Box6 (w.alloc (.cells #[.int .i64 0, .int .i64 0, .int .i64 0, .int .i64 0, .int .i64 0, .int .i64 0] 24)) w.heap.size 0 0 0 0 0 0) := World.alloc_heap_new w _
  have ba : Below w.heap.size w (w.alloc (.cells #[.int .i64 0, .int .i64 0, .int .i64 0, .int .i64 0, .int .i64 0, .int .i64 0] 24)) := (Below.refl _ _).alloc (Nat.le_refl _) _
  have HZ := hid ba
  replace HS := hid (Src.alloc HS.out (.cells #[.int .i64 0, .int .i64 0, .int .i64 0, .int .i64 0, .int .i64 0, .int .i64 0] 24))
  have l1 : w.heap.size < (w.alloc (.cells #[.int .i64 0, .int .i64 0, .int .i64 0, .int .i64 0, .int .i64 0, .int .i64 0] 24)).heap.size := by simp
  clear ba
  generalize w.alloc (.cells #[.int .i64 0, .int .i64 0, .int .i64 0, .int .i64 0, .int .i64 0, .int .i64 0] 24) = w1 at *
  refine (open_s w1 a len cap hc HS.out hl).mono ?_
  rintro e w2 ⟨n, rfl, h1⟩
  replace HQ := hid (HQ.out.bel h1.bel)
  have HR := hid h1
  clear h1
  go_wp2_with fail
  refine (ins_k HR.out (by omega)).mono ?_
  rintro e w3 ⟨⟨z0, z1, z2, z3, z4, z5, rfl⟩, q2, hq2, kk⟩
  replace HQ := hid (HQ.out.k3 (by omega) kk)
  replace HZ := hid (HZ.out.trans (kk.rs.bel.mono (by omega)))
  clear kk HR
  have K5 := hid (st6b_below HZ.out (Nat.le_refl _) (z0) (z1) (z2) (z3) (z4) (z5))
  have P5 := hid (Box6.cells (Box6.st HQ.out (z0) (z1) (z2) (z3) (z4) (z5)))
  obtain ⟨q0, q1, q2, q3, q4, q5⟩ := Box6.cells HQ.out
  have ql := Box6.lt HQ.out
  have qf := Box6.frozen HQ.out
  go_wp2_with fail
  obtain ⟨r0, r1, r2, r3, r4, r5⟩ := P5.out
  unfold st6b at r0 r1 r2 r3 r4 r5
  refine bodyPost_ret (v := .agg #[.int .i64 (z0), .int .i64 (z1), .int .i64 (z2), .int .i64 (z3), .int .i64 (z4), .int .i64 (z5)]) (by simp [results, Tryz.results5, go_sem, r0, r1, r2, r3, r4, r5]) rfl ?_
  exact ⟨⟨_, _, _, _, _, _, rfl⟩, K5.out⟩
end Go.Proofs.YtbbecofgmodfiaaGreatDoor
