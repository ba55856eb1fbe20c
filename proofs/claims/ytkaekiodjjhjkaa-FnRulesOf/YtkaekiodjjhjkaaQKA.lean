/- The draw of an op that reckons. -/
import Derived.Test.YtkaekiodjjhjkaaQLRd0
import Derived.Test.YtkaekiodjjhjkaaQKT
namespace Go.Proofs.Ytkaekiodjjhjkaa
open Go.RowKit
set_option linter.unusedVariables false
set_option linter.unusedSimpArgs false


section
variable {w0 w w' : World} {B : Nat} {a : Option Addr} {len cap p q : Nat}
theorem Box6.k3 {X : Nat} {o d s f i z : Int} (hx : Box6 w X o d s f i z) (hX : X ≠ B) (k3 : K3 w0 w w' B a len cap q) : Box6 w' X o d s f i z := (k3.kp.2 X (Box6.lt hx) hX).trans hx
theorem K3.st6b (h : K3 w0 w w' B a len cap p) (X : Nat) (hk : w.heap.size ≤ X) (o d s f i z : Int) : K3 w0 w (st6b w' X o d s f i z) B a len cap p :=
  (((((h.set _ _ hk).set _ _ hk).set _ _ hk).set _ _ hk).set _ _ hk).set _ _ hk
end
set_option maxRecDepth 100000 in
set_option maxHeartbeats 4000000 in
theorem alu_k {w0 w : World} {B : Nat} {a : Option Addr} {len cap p : Nat} (h : RS w0 w B a len cap p) (hp : p ≤ 900000) :
    Calls Try.prog 54 #[.pointer (some ⟨B, 0, none⟩)] w fun e w' => AnX e ∧ ∃ q, q ≤ p + 6 ∧ K3 w0 w w' B a len cap q := by
  have H := hid h
  have lB := h.lt
  clear h
  go_enter Try.func54, Try.ntmps54
  go_wp2_with fail
  have HQ : Hid (Box6 (w.alloc (.cells #[.int .i64 0, .int .i64 0, .int .i64 0, .int .i64 0, .int .i64 0, .int .i64 0] 86)) w.heap.size 0 0 0 0 0 0) := World.alloc_heap_new w _
  have HD := hid ((K3.start H.out).alloc (.cells #[.int .i64 0, .int .i64 0, .int .i64 0, .int .i64 0, .int .i64 0, .int .i64 0] 86))
  clear H
  generalize w.alloc (.cells #[.int .i64 0, .int .i64 0, .int .i64 0, .int .i64 0, .int .i64 0, .int .i64 0] 86) = w1 at *
  refine (pick_k HD.out.rs (by omega) 11 (by omega) (by omega)).mono ?_
  rintro e w2 ⟨m, rfl, hm, k2⟩
  replace HQ := hid (HQ.out.k3 (by omega) k2)
  replace HD := hid (HD.out.draw k2)
  clear k2
  have hx0 : (0 : Int) ≤ (m : Int) := by omega
  generalize (m : Int) = x at *
  go_wp2_with fail
  refine (one_k HD.out.rs (by omega) [0, 6, 7, 8] 3 (by decide) (by decide)).mono ?_
  rintro e w3 ⟨v, hv, rfl, k3⟩
  replace HQ := hid (HQ.out.k3 (by omega) k3)
  replace HD := hid (HD.out.draw k3)
  clear k3 hv
  go_wp2_with fail
  refine (imm_k HD.out.rs (by omega)).mono ?_
  rintro e w4 ⟨v4, rfl, hv4, k4⟩
  replace HQ := hid (HQ.out.k3 (by omega) k4)
  replace HD := hid (HD.out.draw k4)
  clear k4
  go_wp2_with fail
  have hx : Box6 (w4.alloc (.cells #[.int .i64 (1 + x), .int .i64 v, .int .i64 (-1), .int .i64 0, .int .i64 (v4 : Int), .int .i64 0] 86)) w4.heap.size (1 + x) v (-1) 0 (v4 : Int) 0 := World.alloc_heap_new w4 _
  have ba : Below w4.heap.size w4 (w4.alloc (.cells #[.int .i64 (1 + x), .int .i64 v, .int .i64 (-1), .int .i64 0, .int .i64 (v4 : Int), .int .i64 0] 86)) := (Below.refl _ _).alloc (Nat.le_refl _) _
  have lQX := Box6.lt HQ.out
  replace HQ := hid (HQ.out.bel ba)
  replace HD := hid (HD.out.below ba)
  have HX := hid hx
  clear hx ba
  generalize w4.alloc (.cells #[.int .i64 (1 + x), .int .i64 v, .int .i64 (-1), .int .i64 0, .int .i64 (v4 : Int), .int .i64 0] 86) = w5 at *
  generalize w4.heap.size = X at *
  refine (pick_k HD.out.rs (by omega) 2 (by omega) (by omega)).mono ?_
  rintro e w6 ⟨m2, rfl, hm2, k6⟩
  replace HQ := hid (HQ.out.k3 (by omega) k6)
  replace HX := hid (HX.out.k3 (by omega) k6)
  replace HD := hid (HD.out.draw k6)
  clear k6
  have hy0 : (0 : Int) ≤ (m2 : Int) := by omega
  generalize (m2 : Int) = y at *
  have hyc : y = 0 ∨ y = 1 := by omega
  rcases hyc with rfl | rfl
  · go_wp2_with fail
    refine (one_k HD.out.rs (by omega) [0, 6, 7, 8] 3 (by decide) (by decide)).mono ?_
    rintro e w7 ⟨v7, hv7, rfl, k7⟩
    replace HQ := hid (HQ.out.k3 (by omega) k7)
    replace HX := hid (HX.out.k3 (by omega) k7)
    replace HD := hid (HD.out.draw k7)
    clear k7 hv7
    have K5 := hid (K3.st6b (K3.set (K3.set HD.out ⟨X, 2, none⟩ (.int .i64 v7) (by show w.heap.size ≤ X; omega)) ⟨X, 4, none⟩ (.int .i64 0) (by show w.heap.size ≤ X; omega)) w.heap.size (Nat.le_refl _) (1 + x) (v) (v7) (0) (0) (0))
    have P5 := hid (Box6.cells (Box6.st (Box6.setO (Box6.setO HQ.out X 2 (.int .i64 v7) (by omega)) X 4 (.int .i64 0) (by omega)) (1 + x) (v) (v7) (0) (0) (0)))
    obtain ⟨x0, x1, x2, x3, x4, x5⟩ := Box6.cells HX.out
    have xl := Box6.lt HX.out
    have xf := Box6.frozen HX.out
    obtain ⟨q0, q1, q2, q3, q4, q5⟩ := Box6.cells HQ.out
    have ql := Box6.lt HQ.out
    have qf := Box6.frozen HQ.out
    go_wp2_with fail
    obtain ⟨r0, r1, r2, r3, r4, r5⟩ := P5.out
    unfold st6b at r0 r1 r2 r3 r4 r5
    refine bodyPost_ret (v := .agg #[.int .i64 (1 + x), .int .i64 (v), .int .i64 (v7), .int .i64 (0), .int .i64 (0), .int .i64 (0)]) (by simp [results, Try.results54, go_sem, r0, r1, r2, r3, r4, r5]) rfl ?_
    exact ⟨⟨_, _, _, _, _, _, rfl⟩, _, by omega, K5.out⟩
  · skip
    have K5 := hid (K3.st6b HD.out w.heap.size (Nat.le_refl _) (1 + x) (v) (-1) (0) ((v4 : Int)) (0))
    have P5 := hid (Box6.cells (Box6.st HQ.out (1 + x) (v) (-1) (0) ((v4 : Int)) (0)))
    obtain ⟨x0, x1, x2, x3, x4, x5⟩ := Box6.cells HX.out
    have xl := Box6.lt HX.out
    have xf := Box6.frozen HX.out
    obtain ⟨q0, q1, q2, q3, q4, q5⟩ := Box6.cells HQ.out
    have ql := Box6.lt HQ.out
    have qf := Box6.frozen HQ.out
    go_wp2_with fail
    obtain ⟨r0, r1, r2, r3, r4, r5⟩ := P5.out
    unfold st6b at r0 r1 r2 r3 r4 r5
    refine bodyPost_ret (v := .agg #[.int .i64 (1 + x), .int .i64 (v), .int .i64 (-1), .int .i64 (0), .int .i64 ((v4 : Int)), .int .i64 (0)]) (by simp [results, Try.results54, go_sem, r0, r1, r2, r3, r4, r5]) rfl ?_
    exact ⟨⟨_, _, _, _, _, _, rfl⟩, _, by omega, K5.out⟩
end Go.Proofs.Ytkaekiodjjhjkaa
