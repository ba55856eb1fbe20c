/- The draws of a table and a key. -/
import Derived.Test.YtahbicegmioplaaDA
namespace Go.Proofs.Ytahbicegmioplaa
open Go.RowKit
set_option linter.unusedVariables false
set_option linter.unusedSimpArgs false


theorem Src.alloc {w : World} {a : Option Addr} {len : Nat} (h : Src w a len) (o : Obj) : Src (w.alloc o) a len := by
  rcases h with h | ⟨g, off, ha, hg, hc⟩
  · exact .inl h
  · refine .inr ⟨g, off, ha, by simp; omega, fun j hj => ?_⟩
    obtain ⟨v, hv, hcv⟩ := hc j hj
    exact ⟨v, hv, (Below.cell ((Below.refl _ w).alloc (Nat.le_refl _) o) (p := ⟨g, off + j, none⟩) hg).trans hcv⟩

set_option maxRecDepth 100000 in
set_option maxHeartbeats 4000000 in
theorem key_k {w0 w : World} {B : Nat} {a : Option Addr} {len cap p : Nat} (h : RS w0 w B a len cap p) (hp : p ≤ 1000000) :
    Calls Try.prog 50 #[.pointer (some ⟨B, 0, none⟩)] w fun e w' => ∃ v : Int, e = .returned (.int .i64 v) ∧ K3 w0 w w' B a len cap (p + 1) := by
  have H := hid h
  clear h
  go_enter Try.func50, Try.ntmps50
  go_wp2_with fail
  refine (one_k H.out hp [0, 1, 2, 3, 7, 200, 4294967295, -1, 4294967296] 3 (by decide) (by decide)).mono ?_
  rintro e w1 ⟨v, hv, rfl, h1⟩
  have H1 := hid h1
  clear h1 hv
  go_wp2_with fail
  go_ret
  exact ⟨v, rfl, H1.out⟩

set_option maxRecDepth 100000 in
set_option maxHeartbeats 4000000 in
theorem drawLook_s (w : World) (a : Option Addr) (len cap : Nat) (hc : len ≤ cap) (hs : Src w a len) (hl : cap < 2 ^ 63) :
    Calls Try.prog 19 #[.slice a len cap] w fun e w' => ∃ (k s r : Int) (ks : List Int) (vs : List ByteArray) (a1 b1 : Option Addr) (c1 d1 : Nat) (key : Int), e = .returned (.tuple #[.agg #[.int .i64 k, .int .i64 s, .int .i64 r, .slice a1 ks.length c1, .slice b1 vs.length d1], .int .i64 key]) ∧ RW w' ks vs a1 b1 c1 d1 ∧ ks.length ≤ 21 ∧ vs.length ≤ 21 ∧ Below w.heap.size w w' := by
  have HS0 := hid hs
  clear hs
  go_enter Try.func19, Try.ntmps19
  go_wp2_with fail
  have HQ : Hid (Box5 (w.alloc (.cells #[.int .i64 0, .int .i64 0, .int .i64 0, .slice none 0 0, .slice none 0 0] 28)) w.heap.size 0 0 0 (.slice none 0 0) (.slice none 0 0)) := World.alloc_heap_new w _
  have HS := hid (HS0.out.alloc (.cells #[.int .i64 0, .int .i64 0, .int .i64 0, .slice none 0 0, .slice none 0 0] 28))
  have hz : Below w.heap.size w (w.alloc (.cells #[.int .i64 0, .int .i64 0, .int .i64 0, .slice none 0 0, .slice none 0 0] 28)) := (Below.refl _ _).alloc (Nat.le_refl _) _
  have lz : w.heap.size < (w.alloc (.cells #[.int .i64 0, .int .i64 0, .int .i64 0, .slice none 0 0, .slice none 0 0] 28)).heap.size := by simp
  clear HS0
  generalize w.alloc (.cells #[.int .i64 0, .int .i64 0, .int .i64 0, .slice none 0 0, .slice none 0 0] 28) = wz at *
  refine (open_s wz a len cap hc HS.out hl).mono ?_
  rintro e w1 ⟨n, rfl, h1⟩
  replace HQ := hid (HQ.out.bel h1.bel)
  have HD := hid (K3.start h1)
  clear h1 HS
  go_wp2_with fail
  refine (anyTable_k HD.out.rs (by omega)).mono ?_
  rintro e w2 ⟨k, s, r, ks, vs, a1, b1, c1, d1, q, rfl, hr, hk, hv, hq, k2⟩
  replace HQ := hid (HQ.out.k3 (by omega) k2)
  replace HD := hid (HD.out.draw k2)
  have HR := hid hr
  clear k2 hr
  go_wp2_with fail
  have HM := hid (TB.new HR.out k s r)
  have lQ0 := HQ.out.lt
  have lB0 := HD.out.rs.lt
  replace HQ := hid (HQ.out.alloc (.cells #[.int .i64 k, .int .i64 s, .int .i64 r, .slice a1 ks.length c1, .slice b1 vs.length d1] 28))
  replace HD := hid (HD.out.alloc (.cells #[.int .i64 k, .int .i64 s, .int .i64 r, .slice a1 ks.length c1, .slice b1 vs.length d1] 28))
  clear HR
  generalize w2.alloc (.cells #[.int .i64 k, .int .i64 s, .int .i64 r, .slice a1 ks.length c1, .slice b1 vs.length d1] 28) = w3 at *
  generalize w2.heap.size = M at *
  refine wp_region_held_drew (S := (fun w' => w'.cell? ⟨M, 0, none⟩ = some (.int .i64 k) ∧ w'.cell? ⟨M, 1, none⟩ = some (.int .i64 s) ∧ w'.cell? ⟨M, 2, none⟩ = some (.int .i64 r) ∧ w'.cell? ⟨M, 3, none⟩ = some (.slice a1 ks.length c1) ∧ w'.cell? ⟨M, 4, none⟩ = some (.slice b1 vs.length d1))) (by kernel_rfl) (by exact HM.out.cl) (fun hHeld => ?_)
  have hM := hid HM.out.drew
  have hQ := hid (HQ.out.bel (Below.refl _ _).drew)
  have hD := hid HD.out.drew
  clear HM HQ HD
  generalize w3.drew = W1 at *
  refine wpAnyH_take (i := 0) (oi := ?oi1) (v := ?v1) (fuel := 4) ?hi1 ?hs1 ?hf1 ?hr1 ?hq1 (Or.inl ⟨?hw1, ?hy1⟩) hHeld ?rest1
  case hi1 => rw [List.getElem?_toArray]; rfl
  case hq1 => exact fun _ _ _ h => h
  case hs1 | hf1 | hr1 => kernel_rfl
  case hw1 => rfl
  case hy1 => (intro w1 hSw; (try dsimp only at hSw); go_simp; try with_reducible rfl)
  (try simp only [Act.put, List.setIfInBounds_toArray, List.set_cons_zero, List.set_cons_succ])
  refine wpAnyH_take (i := 1) (oi := ?oi2) (v := ?v2) (fuel := 3) ?hi2 ?hs2 ?hf2 ?hr2 ?hq2 (Or.inl ⟨?hw2, ?hy2⟩) hHeld ?rest2
  case hi2 => rw [List.getElem?_toArray]; rfl
  case hq2 => exact fun _ _ _ h => h
  case hs2 | hf2 | hr2 => kernel_rfl
  case hw2 => rfl
  case hy2 => (intro w1 hSw; (try dsimp only at hSw); go_simp; try with_reducible rfl)
  (try simp only [Act.put, List.setIfInBounds_toArray, List.set_cons_zero, List.set_cons_succ])
  refine wpAnyH_ready (fuel := 2) (rs := [2]) (by kernel_rfl) (by simp) ?_
  refine AllReadyH.cons (o := ?oi3) ?hi3 (fun K hK => ?st3) AllReadyH.nil
  case hi3 => rw [List.getElem?_toArray]; rfl
  go_simp
  refine (key_k hD.out.rs (by omega)).mono ?_
  rintro ee wr2 ⟨key, rfl, k4⟩
  replace hM := hid (hM.out.kept (by omega) hD.out.rs k4)
  replace hQ := hid (hQ.out.k3 (by omega) k4)
  replace hD := hid (hD.out.draw k4)
  clear k4
  go_wp2_with fail
  refine hK.out _ _ ?hS3 (fun hHeld => ?re3)
  case hS3 => exact hM.out.cl
  clear hK K
  (try simp only [Act.put, List.setIfInBounds_toArray, List.set_cons_zero, List.set_cons_succ])
  refine wpAnyH_ready (fuel := 1) (rs := [3]) (by kernel_rfl) (by simp) ?_
  refine AllReadyH.cons (o := ?oi4) ?hi4 (fun K hK => ?st4) AllReadyH.nil
  case hi4 => rw [List.getElem?_toArray]; rfl
  obtain ⟨y0, y1, y2, y3, y4⟩ := Box5.cells hQ.out
  have fQ := Box5.frozen hQ.out
  have lQ := Box5.lt hQ.out
  go_simp
  clear y0 y1 y2 y3 y4 fQ lQ
  refine hK.out _ _ ?hS4 (fun hHeld => ?re4)
  case hS4 => exact Box5.cells (Box5.st5o (Y := w.heap.size) hM.out.box (by omega) k s r (.slice a1 ks.length c1) (.slice b1 vs.length d1))
  clear hK K
  (try simp only [Act.put, List.setIfInBounds_toArray, List.set_cons_zero, List.set_cons_succ])
  refine wpAnyH_take (i := 4) (oi := ?oi5) (v := ?v5) (fuel := 0) ?hi5 ?hs5 ?hf5 ?hr5 ?hq5 (Or.inl ⟨?hw5, ?hy5⟩) hHeld ?rest5
  case hi5 => rw [List.getElem?_toArray]; rfl
  case hq5 => exact fun _ _ _ h => h
  case hs5 | hf5 | hr5 => kernel_rfl
  case hw5 => rfl
  case hy5 => (intro w1 hSw; (try dsimp only at hSw); go_simp; try with_reducible rfl)
  (try simp only [Act.put, List.setIfInBounds_toArray, List.set_cons_zero, List.set_cons_succ])
  refine wpAnyH_done (by kernel_rfl) ?_ _
  clear hHeld
  have R5 := hid (RW.st5 hQ.out hM.out.rw (k' := k) (s' := s) (r' := r) (v' := .slice a1 ks.length c1) (u' := .slice b1 vs.length d1))
  have P5 := hid (Box5.cells (Box5.st5 hQ.out (k' := k) (s' := s) (r' := r) (v' := .slice a1 ks.length c1) (u' := .slice b1 vs.length d1)))
  have B5' := hid (st5_below w.heap.size k s r (.slice a1 ks.length c1) (.slice b1 vs.length d1) (hz.trans (hD.out.rs.bel.mono (Nat.le_of_lt lz))) (Nat.le_refl _))
  go_wp2_with fail
  obtain ⟨p0, p1, p2, p3, p4⟩ := P5.out
  unfold st5 at p0 p1 p2 p3 p4
  refine bodyPost_ret (v := .tuple #[.agg #[.int .i64 k, .int .i64 s, .int .i64 r, .slice a1 ks.length c1, .slice b1 vs.length d1], .int .i64 key]) (by simp [results, Try.results19, go_sem, p0, p1, p2, p3, p4]) rfl ?_
  exact ⟨k, s, r, ks, vs, a1, b1, c1, d1, key, rfl, R5.out, hk, hv, B5'.out⟩

set_option maxRecDepth 100000 in
set_option maxHeartbeats 4000000 in
theorem drawDrop_s (w : World) (a : Option Addr) (len cap : Nat) (hc : len ≤ cap) (hs : Src w a len) (hl : cap < 2 ^ 63) :
    Calls Try.prog 20 #[.slice a len cap] w fun e w' => ∃ (k s r : Int) (ks : List Int) (vs : List ByteArray) (a1 b1 : Option Addr) (c1 d1 : Nat) (key : Int), e = .returned (.tuple #[.agg #[.int .i64 k, .int .i64 s, .int .i64 r, .slice a1 ks.length c1, .slice b1 vs.length d1], .int .i64 key]) ∧ RW w' ks vs a1 b1 c1 d1 ∧ ks.length ≤ 21 ∧ vs.length ≤ 21 ∧ Below w.heap.size w w' := by
  have HS0 := hid hs
  clear hs
  go_enter Try.func20, Try.ntmps20
  go_wp2_with fail
  have HQ : Hid (Box5 (w.alloc (.cells #[.int .i64 0, .int .i64 0, .int .i64 0, .slice none 0 0, .slice none 0 0] 28)) w.heap.size 0 0 0 (.slice none 0 0) (.slice none 0 0)) := World.alloc_heap_new w _
  have HS := hid (HS0.out.alloc (.cells #[.int .i64 0, .int .i64 0, .int .i64 0, .slice none 0 0, .slice none 0 0] 28))
  have hz : Below w.heap.size w (w.alloc (.cells #[.int .i64 0, .int .i64 0, .int .i64 0, .slice none 0 0, .slice none 0 0] 28)) := (Below.refl _ _).alloc (Nat.le_refl _) _
  have lz : w.heap.size < (w.alloc (.cells #[.int .i64 0, .int .i64 0, .int .i64 0, .slice none 0 0, .slice none 0 0] 28)).heap.size := by simp
  clear HS0
  generalize w.alloc (.cells #[.int .i64 0, .int .i64 0, .int .i64 0, .slice none 0 0, .slice none 0 0] 28) = wz at *
  refine (open_s wz a len cap hc HS.out hl).mono ?_
  rintro e w1 ⟨n, rfl, h1⟩
  replace HQ := hid (HQ.out.bel h1.bel)
  have HD := hid (K3.start h1)
  clear h1 HS
  go_wp2_with fail
  refine (anyTable_k HD.out.rs (by omega)).mono ?_
  rintro e w2 ⟨k, s, r, ks, vs, a1, b1, c1, d1, q, rfl, hr, hk, hv, hq, k2⟩
  replace HQ := hid (HQ.out.k3 (by omega) k2)
  replace HD := hid (HD.out.draw k2)
  have HR := hid hr
  clear k2 hr
  go_wp2_with fail
  have HM := hid (TB.new HR.out k s r)
  have lQ0 := HQ.out.lt
  have lB0 := HD.out.rs.lt
  replace HQ := hid (HQ.out.alloc (.cells #[.int .i64 k, .int .i64 s, .int .i64 r, .slice a1 ks.length c1, .slice b1 vs.length d1] 28))
  replace HD := hid (HD.out.alloc (.cells #[.int .i64 k, .int .i64 s, .int .i64 r, .slice a1 ks.length c1, .slice b1 vs.length d1] 28))
  clear HR
  generalize w2.alloc (.cells #[.int .i64 k, .int .i64 s, .int .i64 r, .slice a1 ks.length c1, .slice b1 vs.length d1] 28) = w3 at *
  generalize w2.heap.size = M at *
  refine wp_region_held_drew (S := (fun w' => w'.cell? ⟨M, 0, none⟩ = some (.int .i64 k) ∧ w'.cell? ⟨M, 1, none⟩ = some (.int .i64 s) ∧ w'.cell? ⟨M, 2, none⟩ = some (.int .i64 r) ∧ w'.cell? ⟨M, 3, none⟩ = some (.slice a1 ks.length c1) ∧ w'.cell? ⟨M, 4, none⟩ = some (.slice b1 vs.length d1))) (by kernel_rfl) (by exact HM.out.cl) (fun hHeld => ?_)
  have hM := hid HM.out.drew
  have hQ := hid (HQ.out.bel (Below.refl _ _).drew)
  have hD := hid HD.out.drew
  clear HM HQ HD
  generalize w3.drew = W1 at *
  refine wpAnyH_take (i := 0) (oi := ?oi6) (v := ?v6) (fuel := 4) ?hi6 ?hs6 ?hf6 ?hr6 ?hq6 (Or.inl ⟨?hw6, ?hy6⟩) hHeld ?rest6
  case hi6 => rw [List.getElem?_toArray]; rfl
  case hq6 => exact fun _ _ _ h => h
  case hs6 | hf6 | hr6 => kernel_rfl
  case hw6 => rfl
  case hy6 => (intro w1 hSw; (try dsimp only at hSw); go_simp; try with_reducible rfl)
  (try simp only [Act.put, List.setIfInBounds_toArray, List.set_cons_zero, List.set_cons_succ])
  refine wpAnyH_take (i := 1) (oi := ?oi7) (v := ?v7) (fuel := 3) ?hi7 ?hs7 ?hf7 ?hr7 ?hq7 (Or.inl ⟨?hw7, ?hy7⟩) hHeld ?rest7
  case hi7 => rw [List.getElem?_toArray]; rfl
  case hq7 => exact fun _ _ _ h => h
  case hs7 | hf7 | hr7 => kernel_rfl
  case hw7 => rfl
  case hy7 => (intro w1 hSw; (try dsimp only at hSw); go_simp; try with_reducible rfl)
  (try simp only [Act.put, List.setIfInBounds_toArray, List.set_cons_zero, List.set_cons_succ])
  refine wpAnyH_ready (fuel := 2) (rs := [2]) (by kernel_rfl) (by simp) ?_
  refine AllReadyH.cons (o := ?oi8) ?hi8 (fun K hK => ?st8) AllReadyH.nil
  case hi8 => rw [List.getElem?_toArray]; rfl
  go_simp
  refine (key_k hD.out.rs (by omega)).mono ?_
  rintro ee wr2 ⟨key, rfl, k4⟩
  replace hM := hid (hM.out.kept (by omega) hD.out.rs k4)
  replace hQ := hid (hQ.out.k3 (by omega) k4)
  replace hD := hid (hD.out.draw k4)
  clear k4
  go_wp2_with fail
  refine hK.out _ _ ?hS8 (fun hHeld => ?re8)
  case hS8 => exact hM.out.cl
  clear hK K
  (try simp only [Act.put, List.setIfInBounds_toArray, List.set_cons_zero, List.set_cons_succ])
  refine wpAnyH_ready (fuel := 1) (rs := [3]) (by kernel_rfl) (by simp) ?_
  refine AllReadyH.cons (o := ?oi9) ?hi9 (fun K hK => ?st9) AllReadyH.nil
  case hi9 => rw [List.getElem?_toArray]; rfl
  obtain ⟨y0, y1, y2, y3, y4⟩ := Box5.cells hQ.out
  have fQ := Box5.frozen hQ.out
  have lQ := Box5.lt hQ.out
  go_simp
  clear y0 y1 y2 y3 y4 fQ lQ
  refine hK.out _ _ ?hS9 (fun hHeld => ?re9)
  case hS9 => exact Box5.cells (Box5.st5o (Y := w.heap.size) hM.out.box (by omega) k s r (.slice a1 ks.length c1) (.slice b1 vs.length d1))
  clear hK K
  (try simp only [Act.put, List.setIfInBounds_toArray, List.set_cons_zero, List.set_cons_succ])
  refine wpAnyH_take (i := 4) (oi := ?oi10) (v := ?v10) (fuel := 0) ?hi10 ?hs10 ?hf10 ?hr10 ?hq10 (Or.inl ⟨?hw10, ?hy10⟩) hHeld ?rest10
  case hi10 => rw [List.getElem?_toArray]; rfl
  case hq10 => exact fun _ _ _ h => h
  case hs10 | hf10 | hr10 => kernel_rfl
  case hw10 => rfl
  case hy10 => (intro w1 hSw; (try dsimp only at hSw); go_simp; try with_reducible rfl)
  (try simp only [Act.put, List.setIfInBounds_toArray, List.set_cons_zero, List.set_cons_succ])
  refine wpAnyH_done (by kernel_rfl) ?_ _
  clear hHeld
  have R5 := hid (RW.st5 hQ.out hM.out.rw (k' := k) (s' := s) (r' := r) (v' := .slice a1 ks.length c1) (u' := .slice b1 vs.length d1))
  have P5 := hid (Box5.cells (Box5.st5 hQ.out (k' := k) (s' := s) (r' := r) (v' := .slice a1 ks.length c1) (u' := .slice b1 vs.length d1)))
  have B5' := hid (st5_below w.heap.size k s r (.slice a1 ks.length c1) (.slice b1 vs.length d1) (hz.trans (hD.out.rs.bel.mono (Nat.le_of_lt lz))) (Nat.le_refl _))
  go_wp2_with fail
  obtain ⟨p0, p1, p2, p3, p4⟩ := P5.out
  unfold st5 at p0 p1 p2 p3 p4
  refine bodyPost_ret (v := .tuple #[.agg #[.int .i64 k, .int .i64 s, .int .i64 r, .slice a1 ks.length c1, .slice b1 vs.length d1], .int .i64 key]) (by simp [results, Try.results20, go_sem, p0, p1, p2, p3, p4]) rfl ?_
  exact ⟨k, s, r, ks, vs, a1, b1, c1, d1, key, rfl, R5.out, hk, hv, B5'.out⟩

set_option maxRecDepth 100000 in
set_option maxHeartbeats 4000000 in
theorem drawNext_s (w : World) (a : Option Addr) (len cap : Nat) (hc : len ≤ cap) (hs : Src w a len) (hl : cap < 2 ^ 63) :
    Calls Try.prog 23 #[.slice a len cap] w fun e w' => ∃ (k s r : Int) (ks : List Int) (vs : List ByteArray) (a1 b1 : Option Addr) (c1 d1 : Nat) (key : Int), e = .returned (.tuple #[.agg #[.int .i64 k, .int .i64 s, .int .i64 r, .slice a1 ks.length c1, .slice b1 vs.length d1], .int .i64 key]) ∧ RW w' ks vs a1 b1 c1 d1 ∧ ks.length ≤ 21 ∧ vs.length ≤ 21 ∧ Below w.heap.size w w' := by
  have HS0 := hid hs
  clear hs
  go_enter Try.func23, Try.ntmps23
  go_wp2_with fail
  have HQ : Hid (Box5 (w.alloc (.cells #[.int .i64 0, .int .i64 0, .int .i64 0, .slice none 0 0, .slice none 0 0] 28)) w.heap.size 0 0 0 (.slice none 0 0) (.slice none 0 0)) := World.alloc_heap_new w _
  have HS := hid (HS0.out.alloc (.cells #[.int .i64 0, .int .i64 0, .int .i64 0, .slice none 0 0, .slice none 0 0] 28))
  have hz : Below w.heap.size w (w.alloc (.cells #[.int .i64 0, .int .i64 0, .int .i64 0, .slice none 0 0, .slice none 0 0] 28)) := (Below.refl _ _).alloc (Nat.le_refl _) _
  have lz : w.heap.size < (w.alloc (.cells #[.int .i64 0, .int .i64 0, .int .i64 0, .slice none 0 0, .slice none 0 0] 28)).heap.size := by simp
  clear HS0
  generalize w.alloc (.cells #[.int .i64 0, .int .i64 0, .int .i64 0, .slice none 0 0, .slice none 0 0] 28) = wz at *
  refine (open_s wz a len cap hc HS.out hl).mono ?_
  rintro e w1 ⟨n, rfl, h1⟩
  replace HQ := hid (HQ.out.bel h1.bel)
  have HD := hid (K3.start h1)
  clear h1 HS
  go_wp2_with fail
  refine (anyTable_k HD.out.rs (by omega)).mono ?_
  rintro e w2 ⟨k, s, r, ks, vs, a1, b1, c1, d1, q, rfl, hr, hk, hv, hq, k2⟩
  replace HQ := hid (HQ.out.k3 (by omega) k2)
  replace HD := hid (HD.out.draw k2)
  have HR := hid hr
  clear k2 hr
  go_wp2_with fail
  have HM := hid (TB.new HR.out k s r)
  have lQ0 := HQ.out.lt
  have lB0 := HD.out.rs.lt
  replace HQ := hid (HQ.out.alloc (.cells #[.int .i64 k, .int .i64 s, .int .i64 r, .slice a1 ks.length c1, .slice b1 vs.length d1] 28))
  replace HD := hid (HD.out.alloc (.cells #[.int .i64 k, .int .i64 s, .int .i64 r, .slice a1 ks.length c1, .slice b1 vs.length d1] 28))
  clear HR
  generalize w2.alloc (.cells #[.int .i64 k, .int .i64 s, .int .i64 r, .slice a1 ks.length c1, .slice b1 vs.length d1] 28) = w3 at *
  generalize w2.heap.size = M at *
  refine wp_region_held_drew (S := (fun w' => w'.cell? ⟨M, 0, none⟩ = some (.int .i64 k) ∧ w'.cell? ⟨M, 1, none⟩ = some (.int .i64 s) ∧ w'.cell? ⟨M, 2, none⟩ = some (.int .i64 r) ∧ w'.cell? ⟨M, 3, none⟩ = some (.slice a1 ks.length c1) ∧ w'.cell? ⟨M, 4, none⟩ = some (.slice b1 vs.length d1))) (by kernel_rfl) (by exact HM.out.cl) (fun hHeld => ?_)
  have hM := hid HM.out.drew
  have hQ := hid (HQ.out.bel (Below.refl _ _).drew)
  have hD := hid HD.out.drew
  clear HM HQ HD
  generalize w3.drew = W1 at *
  refine wpAnyH_take (i := 0) (oi := ?oi11) (v := ?v11) (fuel := 4) ?hi11 ?hs11 ?hf11 ?hr11 ?hq11 (Or.inl ⟨?hw11, ?hy11⟩) hHeld ?rest11
  case hi11 => rw [List.getElem?_toArray]; rfl
  case hq11 => exact fun _ _ _ h => h
  case hs11 | hf11 | hr11 => kernel_rfl
  case hw11 => rfl
  case hy11 => (intro w1 hSw; (try dsimp only at hSw); go_simp; try with_reducible rfl)
  (try simp only [Act.put, List.setIfInBounds_toArray, List.set_cons_zero, List.set_cons_succ])
  refine wpAnyH_take (i := 1) (oi := ?oi12) (v := ?v12) (fuel := 3) ?hi12 ?hs12 ?hf12 ?hr12 ?hq12 (Or.inl ⟨?hw12, ?hy12⟩) hHeld ?rest12
  case hi12 => rw [List.getElem?_toArray]; rfl
  case hq12 => exact fun _ _ _ h => h
  case hs12 | hf12 | hr12 => kernel_rfl
  case hw12 => rfl
  case hy12 => (intro w1 hSw; (try dsimp only at hSw); go_simp; try with_reducible rfl)
  (try simp only [Act.put, List.setIfInBounds_toArray, List.set_cons_zero, List.set_cons_succ])
  refine wpAnyH_ready (fuel := 2) (rs := [2]) (by kernel_rfl) (by simp) ?_
  refine AllReadyH.cons (o := ?oi13) ?hi13 (fun K hK => ?st13) AllReadyH.nil
  case hi13 => rw [List.getElem?_toArray]; rfl
  go_simp
  refine (key_k hD.out.rs (by omega)).mono ?_
  rintro ee wr2 ⟨key, rfl, k4⟩
  replace hM := hid (hM.out.kept (by omega) hD.out.rs k4)
  replace hQ := hid (hQ.out.k3 (by omega) k4)
  replace hD := hid (hD.out.draw k4)
  clear k4
  go_wp2_with fail
  refine hK.out _ _ ?hS13 (fun hHeld => ?re13)
  case hS13 => exact hM.out.cl
  clear hK K
  (try simp only [Act.put, List.setIfInBounds_toArray, List.set_cons_zero, List.set_cons_succ])
  refine wpAnyH_ready (fuel := 1) (rs := [3]) (by kernel_rfl) (by simp) ?_
  refine AllReadyH.cons (o := ?oi14) ?hi14 (fun K hK => ?st14) AllReadyH.nil
  case hi14 => rw [List.getElem?_toArray]; rfl
  obtain ⟨y0, y1, y2, y3, y4⟩ := Box5.cells hQ.out
  have fQ := Box5.frozen hQ.out
  have lQ := Box5.lt hQ.out
  go_simp
  clear y0 y1 y2 y3 y4 fQ lQ
  refine hK.out _ _ ?hS14 (fun hHeld => ?re14)
  case hS14 => exact Box5.cells (Box5.st5o (Y := w.heap.size) hM.out.box (by omega) k s r (.slice a1 ks.length c1) (.slice b1 vs.length d1))
  clear hK K
  (try simp only [Act.put, List.setIfInBounds_toArray, List.set_cons_zero, List.set_cons_succ])
  refine wpAnyH_take (i := 4) (oi := ?oi15) (v := ?v15) (fuel := 0) ?hi15 ?hs15 ?hf15 ?hr15 ?hq15 (Or.inl ⟨?hw15, ?hy15⟩) hHeld ?rest15
  case hi15 => rw [List.getElem?_toArray]; rfl
  case hq15 => exact fun _ _ _ h => h
  case hs15 | hf15 | hr15 => kernel_rfl
  case hw15 => rfl
  case hy15 => (intro w1 hSw; (try dsimp only at hSw); go_simp; try with_reducible rfl)
  (try simp only [Act.put, List.setIfInBounds_toArray, List.set_cons_zero, List.set_cons_succ])
  refine wpAnyH_done (by kernel_rfl) ?_ _
  clear hHeld
  have R5 := hid (RW.st5 hQ.out hM.out.rw (k' := k) (s' := s) (r' := r) (v' := .slice a1 ks.length c1) (u' := .slice b1 vs.length d1))
  have P5 := hid (Box5.cells (Box5.st5 hQ.out (k' := k) (s' := s) (r' := r) (v' := .slice a1 ks.length c1) (u' := .slice b1 vs.length d1)))
  have B5' := hid (st5_below w.heap.size k s r (.slice a1 ks.length c1) (.slice b1 vs.length d1) (hz.trans (hD.out.rs.bel.mono (Nat.le_of_lt lz))) (Nat.le_refl _))
  go_wp2_with fail
  obtain ⟨p0, p1, p2, p3, p4⟩ := P5.out
  unfold st5 at p0 p1 p2 p3 p4
  refine bodyPost_ret (v := .tuple #[.agg #[.int .i64 k, .int .i64 s, .int .i64 r, .slice a1 ks.length c1, .slice b1 vs.length d1], .int .i64 key]) (by simp [results, Try.results23, go_sem, p0, p1, p2, p3, p4]) rfl ?_
  exact ⟨k, s, r, ks, vs, a1, b1, c1, d1, key, rfl, R5.out, hk, hv, B5'.out⟩

set_option maxRecDepth 100000 in
set_option maxHeartbeats 4000000 in
theorem drawPut_s (w : World) (a : Option Addr) (len cap : Nat) (hc : len ≤ cap) (hs : Src w a len) (hl : cap < 2 ^ 63) :
    Calls Try.prog 15 #[.slice a len cap] w fun e w' => ∃ (k s r : Int) (ks : List Int) (vs : List ByteArray) (a1 b1 : Option Addr) (c1 d1 : Nat) (key : Int) (val : ByteArray), e = .returned (.tuple #[.agg #[.int .i64 k, .int .i64 s, .int .i64 r, .slice a1 ks.length c1, .slice b1 vs.length d1], .int .i64 key, .string val]) ∧ RW w' ks vs a1 b1 c1 d1 ∧ ks.length ≤ 21 ∧ vs.length ≤ 21 ∧ val.size ≤ 9 ∧ Below w.heap.size w w' := by
  have HS0 := hid hs
  clear hs
  go_enter Try.func15, Try.ntmps15
  go_wp2_with fail
  have HQ : Hid (Box5 (w.alloc (.cells #[.int .i64 0, .int .i64 0, .int .i64 0, .slice none 0 0, .slice none 0 0] 28)) w.heap.size 0 0 0 (.slice none 0 0) (.slice none 0 0)) := World.alloc_heap_new w _
  have HS := hid (HS0.out.alloc (.cells #[.int .i64 0, .int .i64 0, .int .i64 0, .slice none 0 0, .slice none 0 0] 28))
  have hz : Below w.heap.size w (w.alloc (.cells #[.int .i64 0, .int .i64 0, .int .i64 0, .slice none 0 0, .slice none 0 0] 28)) := (Below.refl _ _).alloc (Nat.le_refl _) _
  have lz : w.heap.size < (w.alloc (.cells #[.int .i64 0, .int .i64 0, .int .i64 0, .slice none 0 0, .slice none 0 0] 28)).heap.size := by simp
  clear HS0
  generalize w.alloc (.cells #[.int .i64 0, .int .i64 0, .int .i64 0, .slice none 0 0, .slice none 0 0] 28) = wz at *
  refine (open_s wz a len cap hc HS.out hl).mono ?_
  rintro e w1 ⟨n, rfl, h1⟩
  replace HQ := hid (HQ.out.bel h1.bel)
  have HD := hid (K3.start h1)
  clear h1 HS
  go_wp2_with fail
  refine (anyTable_k HD.out.rs (by omega)).mono ?_
  rintro e w2 ⟨k, s, r, ks, vs, a1, b1, c1, d1, q, rfl, hr, hk, hv, hq, k2⟩
  replace HQ := hid (HQ.out.k3 (by omega) k2)
  replace HD := hid (HD.out.draw k2)
  have HR := hid hr
  clear k2 hr
  go_wp2_with fail
  have HM := hid (TB.new HR.out k s r)
  have lQ0 := HQ.out.lt
  have lB0 := HD.out.rs.lt
  replace HQ := hid (HQ.out.alloc (.cells #[.int .i64 k, .int .i64 s, .int .i64 r, .slice a1 ks.length c1, .slice b1 vs.length d1] 28))
  replace HD := hid (HD.out.alloc (.cells #[.int .i64 k, .int .i64 s, .int .i64 r, .slice a1 ks.length c1, .slice b1 vs.length d1] 28))
  clear HR
  generalize w2.alloc (.cells #[.int .i64 k, .int .i64 s, .int .i64 r, .slice a1 ks.length c1, .slice b1 vs.length d1] 28) = w3 at *
  generalize w2.heap.size = M at *
  obtain ⟨x0, x1, x2, x3, x4⟩ := HM.out.cl
  have lM := HM.out.lt
  go_wp2_with fail
  clear x0 x1 x2 x3 x4 lM
  refine (f36 _ _ _ _).mono ?_
  rintro e w' ⟨rfl, hw⟩
  rw [hw]; clear hw w'
  cases hin : inB s 1 8
  · go_wp2_with fail
    have hval9 : (⟨#[116, 111, 111, 108, 111, 110, 103, 33, 33]⟩ : ByteArray).size ≤ 9 := by decide
    refine wp_region_held_drew (S := (fun w' => w'.cell? ⟨M, 0, none⟩ = some (.int .i64 k) ∧ w'.cell? ⟨M, 1, none⟩ = some (.int .i64 s) ∧ w'.cell? ⟨M, 2, none⟩ = some (.int .i64 r) ∧ w'.cell? ⟨M, 3, none⟩ = some (.slice a1 ks.length c1) ∧ w'.cell? ⟨M, 4, none⟩ = some (.slice b1 vs.length d1))) (by kernel_rfl) (by exact HM.out.cl) (fun hHeld => ?_)
    have hM := hid HM.out.drew
    have hQ := hid (HQ.out.bel (Below.refl _ _).drew)
    have hD := hid HD.out.drew
    clear HM HQ HD
    generalize w3.drew = W1 at *
    refine wpAnyH_take (i := 0) (oi := ?oi29) (v := ?v29) (fuel := 6) ?hi29 ?hs29 ?hf29 ?hr29 ?hq29 (Or.inl ⟨?hw29, ?hy29⟩) hHeld ?rest29
    case hi29 => rw [List.getElem?_toArray]; rfl
    case hq29 => exact fun _ _ _ h => h
    case hs29 | hf29 | hr29 => kernel_rfl
    case hw29 => rfl
    case hy29 => (intro w1 hSw; (try dsimp only at hSw); go_simp; try with_reducible rfl)
    (try simp only [Act.put, List.setIfInBounds_toArray, List.set_cons_zero, List.set_cons_succ])
    refine wpAnyH_take (i := 1) (oi := ?oi30) (v := ?v30) (fuel := 5) ?hi30 ?hs30 ?hf30 ?hr30 ?hq30 (Or.inl ⟨?hw30, ?hy30⟩) hHeld ?rest30
    case hi30 => rw [List.getElem?_toArray]; rfl
    case hq30 => exact fun _ _ _ h => h
    case hs30 | hf30 | hr30 => kernel_rfl
    case hw30 => rfl
    case hy30 => (intro w1 hSw; (try dsimp only at hSw); go_simp; try with_reducible rfl)
    (try simp only [Act.put, List.setIfInBounds_toArray, List.set_cons_zero, List.set_cons_succ])
    refine wpAnyH_take (i := 3) (oi := ?oi31) (v := ?v31) (fuel := 4) ?hi31 ?hs31 ?hf31 ?hr31 ?hq31 (Or.inl ⟨?hw31, ?hy31⟩) hHeld ?rest31
    case hi31 => rw [List.getElem?_toArray]; rfl
    case hq31 => exact fun _ _ _ h => h
    case hs31 | hf31 | hr31 => kernel_rfl
    case hw31 => rfl
    case hy31 => (intro w1 hSw; (try dsimp only at hSw); go_simp; try with_reducible rfl)
    (try simp only [Act.put, List.setIfInBounds_toArray, List.set_cons_zero, List.set_cons_succ])
    refine wpAnyH_ready (fuel := 3) (rs := [2]) (by kernel_rfl) (by simp) ?_
    refine AllReadyH.cons (o := ?oi32) ?hi32 (fun K hK => ?st32) AllReadyH.nil
    case hi32 => rw [List.getElem?_toArray]; rfl
    go_simp
    refine (key_k hD.out.rs (by omega)).mono ?_
    rintro ee wr2 ⟨key, rfl, k4⟩
    replace hM := hid (hM.out.kept (by omega) hD.out.rs k4)
    replace hQ := hid (hQ.out.k3 (by omega) k4)
    replace hD := hid (hD.out.draw k4)
    clear k4
    go_wp2_with fail
    refine hK.out _ _ ?hS32 (fun hHeld => ?re32)
    case hS32 => exact hM.out.cl
    clear hK K
    (try simp only [Act.put, List.setIfInBounds_toArray, List.set_cons_zero, List.set_cons_succ])
    refine wpAnyH_ready (fuel := 2) (rs := [4]) (by kernel_rfl) (by simp) ?_
    refine AllReadyH.cons (o := ?oi33) ?hi33 (fun K hK => ?st33) AllReadyH.nil
    case hi33 => rw [List.getElem?_toArray]; rfl
    obtain ⟨y0, y1, y2, y3, y4⟩ := Box5.cells hQ.out
    have fQ := Box5.frozen hQ.out
    have lQ := Box5.lt hQ.out
    go_simp
    clear y0 y1 y2 y3 y4 fQ lQ
    refine hK.out _ _ ?hS33 (fun hHeld => ?re33)
    case hS33 => exact Box5.cells (Box5.st5o (Y := w.heap.size) hM.out.box (by omega) k s r (.slice a1 ks.length c1) (.slice b1 vs.length d1))
    clear hK K
    (try simp only [Act.put, List.setIfInBounds_toArray, List.set_cons_zero, List.set_cons_succ])
    refine wpAnyH_take (i := 5) (oi := ?oi34) (v := ?v34) (fuel := 1) ?hi34 ?hs34 ?hf34 ?hr34 ?hq34 (Or.inl ⟨?hw34, ?hy34⟩) hHeld ?rest34
    case hi34 => rw [List.getElem?_toArray]; rfl
    case hq34 => exact fun _ _ _ h => h
    case hs34 | hf34 | hr34 => kernel_rfl
    case hw34 => rfl
    case hy34 => (intro w1 hSw; (try dsimp only at hSw); go_simp; try with_reducible rfl)
    (try simp only [Act.put, List.setIfInBounds_toArray, List.set_cons_zero, List.set_cons_succ])
    refine wpAnyH_take (i := 6) (oi := ?oi35) (v := ?v35) (fuel := 0) ?hi35 ?hs35 ?hf35 ?hr35 ?hq35 (Or.inl ⟨?hw35, ?hy35⟩) hHeld ?rest35
    case hi35 => rw [List.getElem?_toArray]; rfl
    case hq35 => exact fun _ _ _ h => h
    case hs35 | hf35 | hr35 => kernel_rfl
    case hw35 => rfl
    case hy35 => (intro w1 hSw; (try dsimp only at hSw); go_simp; try with_reducible rfl)
    (try simp only [Act.put, List.setIfInBounds_toArray, List.set_cons_zero, List.set_cons_succ])
    refine wpAnyH_done (by kernel_rfl) ?_ _
    clear hHeld
    have R5 := hid (RW.st5 hQ.out hM.out.rw (k' := k) (s' := s) (r' := r) (v' := .slice a1 ks.length c1) (u' := .slice b1 vs.length d1))
    have P5 := hid (Box5.cells (Box5.st5 hQ.out (k' := k) (s' := s) (r' := r) (v' := .slice a1 ks.length c1) (u' := .slice b1 vs.length d1)))
    have B5' := hid (st5_below w.heap.size k s r (.slice a1 ks.length c1) (.slice b1 vs.length d1) (hz.trans (hD.out.rs.bel.mono (Nat.le_of_lt lz))) (Nat.le_refl _))
    go_wp2_with fail
    obtain ⟨p0, p1, p2, p3, p4⟩ := P5.out
    unfold st5 at p0 p1 p2 p3 p4
    refine bodyPost_ret (v := .tuple #[.agg #[.int .i64 k, .int .i64 s, .int .i64 r, .slice a1 ks.length c1, .slice b1 vs.length d1], .int .i64 key, .string ⟨#[116, 111, 111, 108, 111, 110, 103, 33, 33]⟩]) (by simp [results, Try.results15, go_sem, p0, p1, p2, p3, p4]) rfl ?_
    exact ⟨k, s, r, ks, vs, a1, b1, c1, d1, key, ⟨#[116, 111, 111, 108, 111, 110, 103, 33, 33]⟩, rfl, R5.out, hk, hv, hval9, B5'.out⟩
  · simp only [inB, Bool.and_eq_true, decide_eq_true_eq] at hin
    obtain ⟨sn, rfl⟩ : ∃ n : Nat, s = n := ⟨s.toNat, by omega⟩
    have hs8 : sn ≤ 8 := by omega
    clear hin
    go_wp2_with fail
    refine (pick_k HD.out.rs (by omega) 8 (by omega) (by omega)).mono ?_
    rintro e w4 ⟨m, rfl, hm, k4⟩
    replace HM := hid (HM.out.kept (by omega) HD.out.rs k4)
    replace HQ := hid (HQ.out.k3 (by omega) k4)
    replace HD := hid (HD.out.draw k4)
    clear k4
    have hx0 : (0 : Int) ≤ (m : Int) := by omega
    generalize (m : Int) = x at *
    have hxc : x = 0 ∨ 0 < x := by omega
    rcases hxc with rfl | h0
    · go_wp2_with fail
      have hval9 : (⟨#[116, 111, 111, 108, 111, 110, 103, 33, 33]⟩ : ByteArray).size ≤ 9 := by decide
      refine wp_region_held_drew (S := (fun w' => w'.cell? ⟨M, 0, none⟩ = some (.int .i64 k) ∧ w'.cell? ⟨M, 1, none⟩ = some (.int .i64 sn) ∧ w'.cell? ⟨M, 2, none⟩ = some (.int .i64 r) ∧ w'.cell? ⟨M, 3, none⟩ = some (.slice a1 ks.length c1) ∧ w'.cell? ⟨M, 4, none⟩ = some (.slice b1 vs.length d1))) (by kernel_rfl) (by exact HM.out.cl) (fun hHeld => ?_)
      have hM := hid HM.out.drew
      have hQ := hid (HQ.out.bel (Below.refl _ _).drew)
      have hD := hid HD.out.drew
      clear HM HQ HD
      generalize w4.drew = W1 at *
      refine wpAnyH_take (i := 0) (oi := ?oi36) (v := ?v36) (fuel := 6) ?hi36 ?hs36 ?hf36 ?hr36 ?hq36 (Or.inl ⟨?hw36, ?hy36⟩) hHeld ?rest36
      case hi36 => rw [List.getElem?_toArray]; rfl
      case hq36 => exact fun _ _ _ h => h
      case hs36 | hf36 | hr36 => kernel_rfl
      case hw36 => rfl
      case hy36 => (intro w1 hSw; (try dsimp only at hSw); go_simp; try with_reducible rfl)
      (try simp only [Act.put, List.setIfInBounds_toArray, List.set_cons_zero, List.set_cons_succ])
      refine wpAnyH_take (i := 1) (oi := ?oi37) (v := ?v37) (fuel := 5) ?hi37 ?hs37 ?hf37 ?hr37 ?hq37 (Or.inl ⟨?hw37, ?hy37⟩) hHeld ?rest37
      case hi37 => rw [List.getElem?_toArray]; rfl
      case hq37 => exact fun _ _ _ h => h
      case hs37 | hf37 | hr37 => kernel_rfl
      case hw37 => rfl
      case hy37 => (intro w1 hSw; (try dsimp only at hSw); go_simp; try with_reducible rfl)
      (try simp only [Act.put, List.setIfInBounds_toArray, List.set_cons_zero, List.set_cons_succ])
      refine wpAnyH_take (i := 3) (oi := ?oi38) (v := ?v38) (fuel := 4) ?hi38 ?hs38 ?hf38 ?hr38 ?hq38 (Or.inl ⟨?hw38, ?hy38⟩) hHeld ?rest38
      case hi38 => rw [List.getElem?_toArray]; rfl
      case hq38 => exact fun _ _ _ h => h
      case hs38 | hf38 | hr38 => kernel_rfl
      case hw38 => rfl
      case hy38 => (intro w1 hSw; (try dsimp only at hSw); go_simp; try with_reducible rfl)
      (try simp only [Act.put, List.setIfInBounds_toArray, List.set_cons_zero, List.set_cons_succ])
      refine wpAnyH_ready (fuel := 3) (rs := [2]) (by kernel_rfl) (by simp) ?_
      refine AllReadyH.cons (o := ?oi39) ?hi39 (fun K hK => ?st39) AllReadyH.nil
      case hi39 => rw [List.getElem?_toArray]; rfl
      go_simp
      refine (key_k hD.out.rs (by omega)).mono ?_
      rintro ee wr2 ⟨key, rfl, k4⟩
      replace hM := hid (hM.out.kept (by omega) hD.out.rs k4)
      replace hQ := hid (hQ.out.k3 (by omega) k4)
      replace hD := hid (hD.out.draw k4)
      clear k4
      go_wp2_with fail
      refine hK.out _ _ ?hS39 (fun hHeld => ?re39)
      case hS39 => exact hM.out.cl
      clear hK K
      (try simp only [Act.put, List.setIfInBounds_toArray, List.set_cons_zero, List.set_cons_succ])
      refine wpAnyH_ready (fuel := 2) (rs := [4]) (by kernel_rfl) (by simp) ?_
      refine AllReadyH.cons (o := ?oi40) ?hi40 (fun K hK => ?st40) AllReadyH.nil
      case hi40 => rw [List.getElem?_toArray]; rfl
      obtain ⟨y0, y1, y2, y3, y4⟩ := Box5.cells hQ.out
      have fQ := Box5.frozen hQ.out
      have lQ := Box5.lt hQ.out
      go_simp
      clear y0 y1 y2 y3 y4 fQ lQ
      refine hK.out _ _ ?hS40 (fun hHeld => ?re40)
      case hS40 => exact Box5.cells (Box5.st5o (Y := w.heap.size) hM.out.box (by omega) k sn r (.slice a1 ks.length c1) (.slice b1 vs.length d1))
      clear hK K
      (try simp only [Act.put, List.setIfInBounds_toArray, List.set_cons_zero, List.set_cons_succ])
      refine wpAnyH_take (i := 5) (oi := ?oi41) (v := ?v41) (fuel := 1) ?hi41 ?hs41 ?hf41 ?hr41 ?hq41 (Or.inl ⟨?hw41, ?hy41⟩) hHeld ?rest41
      case hi41 => rw [List.getElem?_toArray]; rfl
      case hq41 => exact fun _ _ _ h => h
      case hs41 | hf41 | hr41 => kernel_rfl
      case hw41 => rfl
      case hy41 => (intro w1 hSw; (try dsimp only at hSw); go_simp; try with_reducible rfl)
      (try simp only [Act.put, List.setIfInBounds_toArray, List.set_cons_zero, List.set_cons_succ])
      refine wpAnyH_take (i := 6) (oi := ?oi42) (v := ?v42) (fuel := 0) ?hi42 ?hs42 ?hf42 ?hr42 ?hq42 (Or.inl ⟨?hw42, ?hy42⟩) hHeld ?rest42
      case hi42 => rw [List.getElem?_toArray]; rfl
      case hq42 => exact fun _ _ _ h => h
      case hs42 | hf42 | hr42 => kernel_rfl
      case hw42 => rfl
      case hy42 => (intro w1 hSw; (try dsimp only at hSw); go_simp; try with_reducible rfl)
      (try simp only [Act.put, List.setIfInBounds_toArray, List.set_cons_zero, List.set_cons_succ])
      refine wpAnyH_done (by kernel_rfl) ?_ _
      clear hHeld
      have R5 := hid (RW.st5 hQ.out hM.out.rw (k' := k) (s' := sn) (r' := r) (v' := .slice a1 ks.length c1) (u' := .slice b1 vs.length d1))
      have P5 := hid (Box5.cells (Box5.st5 hQ.out (k' := k) (s' := sn) (r' := r) (v' := .slice a1 ks.length c1) (u' := .slice b1 vs.length d1)))
      have B5' := hid (st5_below w.heap.size k sn r (.slice a1 ks.length c1) (.slice b1 vs.length d1) (hz.trans (hD.out.rs.bel.mono (Nat.le_of_lt lz))) (Nat.le_refl _))
      go_wp2_with fail
      obtain ⟨p0, p1, p2, p3, p4⟩ := P5.out
      unfold st5 at p0 p1 p2 p3 p4
      refine bodyPost_ret (v := .tuple #[.agg #[.int .i64 k, .int .i64 sn, .int .i64 r, .slice a1 ks.length c1, .slice b1 vs.length d1], .int .i64 key, .string ⟨#[116, 111, 111, 108, 111, 110, 103, 33, 33]⟩]) (by simp [results, Try.results15, go_sem, p0, p1, p2, p3, p4]) rfl ?_
      exact ⟨k, sn, r, ks, vs, a1, b1, c1, d1, key, ⟨#[116, 111, 111, 108, 111, 110, 103, 33, 33]⟩, rfl, R5.out, hk, hv, hval9, B5'.out⟩
    · have h0' : (x > 0) = True := by simp; omega
      clear h0'
      go_wp2_with fail
      refine wp_region_held_drew (S := (fun w' => w'.cell? ⟨M, 0, none⟩ = some (.int .i64 k) ∧ w'.cell? ⟨M, 1, none⟩ = some (.int .i64 sn) ∧ w'.cell? ⟨M, 2, none⟩ = some (.int .i64 r) ∧ w'.cell? ⟨M, 3, none⟩ = some (.slice a1 ks.length c1) ∧ w'.cell? ⟨M, 4, none⟩ = some (.slice b1 vs.length d1))) (by kernel_rfl) (by exact HM.out.cl) (fun hHeld => ?_)
      have hM := hid HM.out.drew
      have hQ := hid (HQ.out.bel (Below.refl _ _).drew)
      have hD := hid HD.out.drew
      clear HM HQ HD
      generalize w4.drew = W0 at *
      refine wpAnyH_take (i := 0) (oi := ?oi16) (v := ?v16) (fuel := 5) ?hi16 ?hs16 ?hf16 ?hr16 ?hq16 (Or.inl ⟨?hw16, ?hy16⟩) hHeld ?rest16
      case hi16 => rw [List.getElem?_toArray]; rfl
      case hq16 => exact fun _ _ _ h => h
      case hs16 | hf16 | hr16 => kernel_rfl
      case hw16 => rfl
      case hy16 => (intro w1 hSw; (try dsimp only at hSw); go_simp; try with_reducible rfl)
      (try simp only [Act.put, List.setIfInBounds_toArray, List.set_cons_zero, List.set_cons_succ])
      refine wpAnyH_take (i := 2) (oi := ?oi17) (v := ?v17) (fuel := 4) ?hi17 ?hs17 ?hf17 ?hr17 ?hq17 (Or.inl ⟨?hw17, ?hy17⟩) hHeld ?rest17
      case hi17 => rw [List.getElem?_toArray]; rfl
      case hq17 => exact fun _ _ _ h => h
      case hs17 | hf17 | hr17 => kernel_rfl
      case hw17 => rfl
      case hy17 => (intro w1 hSw; (try dsimp only at hSw); go_simp; try with_reducible rfl)
      (try simp only [Act.put, List.setIfInBounds_toArray, List.set_cons_zero, List.set_cons_succ])
      refine wpAnyH_take (i := 3) (oi := ?oi18) (v := ?v18) (fuel := 3) ?hi18 ?hs18 ?hf18 ?hr18 ?hq18 (Or.inl ⟨?hw18, ?hy18⟩) hHeld ?rest18
      case hi18 => rw [List.getElem?_toArray]; rfl
      case hq18 => exact fun _ _ _ h => h
      case hs18 | hf18 | hr18 => kernel_rfl
      case hw18 => rfl
      case hy18 => (intro w1 hSw; (try dsimp only at hSw); go_simp; try with_reducible rfl)
      (try simp only [Act.put, List.setIfInBounds_toArray, List.set_cons_zero, List.set_cons_succ])
      refine wpAnyH_ready (fuel := 2) (rs := [1]) (by kernel_rfl) (by simp) ?_
      refine AllReadyH.cons (o := ?oi19) ?hi19 (fun K hK => ?st19) AllReadyH.nil
      case hi19 => rw [List.getElem?_toArray]; rfl
      go_simp
      refine (number_k hD.out.rs (by omega)).mono ?_
      rintro ee wr1 ⟨v, q2, rfl, hv2, hq2, k4⟩
      replace hM := hid (hM.out.kept (by omega) hD.out.rs k4)
      replace hQ := hid (hQ.out.k3 (by omega) k4)
      replace hD := hid (hD.out.draw k4)
      clear k4
      go_wp2_with fail
      refine hK.out _ _ ?hS19 (fun hHeld => ?re19)
      case hS19 => exact hM.out.cl
      clear hK K
      (try simp only [Act.put, List.setIfInBounds_toArray, List.set_cons_zero, List.set_cons_succ])
      refine wpAnyH_ready (fuel := 1) (rs := [4]) (by kernel_rfl) (by simp) ?_
      refine AllReadyH.cons (o := ?oi20) ?hi20 (fun K hK => ?st20) AllReadyH.nil
      case hi20 => rw [List.getElem?_toArray]; rfl
      go_simp
      refine (l4Bytes_c v sn _ hs8).mono ?_
      rintro ee wr4 ⟨val, rfl, hval, b4⟩
      replace hM := hid (hM.out.below b4)
      replace hQ := hid (hQ.out.bel b4)
      replace hD := hid (hD.out.below b4)
      clear b4
      go_wp2_with fail
      refine hK.out _ _ ?hS20 (fun hHeld => ?re20)
      case hS20 => exact hM.out.cl
      clear hK K
      (try simp only [Act.put, List.setIfInBounds_toArray, List.set_cons_zero, List.set_cons_succ])
      refine wpAnyH_take (i := 5) (oi := ?oi21) (v := ?v21) (fuel := 0) ?hi21 ?hs21 ?hf21 ?hr21 ?hq21 (Or.inl ⟨?hw21, ?hy21⟩) hHeld ?rest21
      case hi21 => rw [List.getElem?_toArray]; rfl
      case hq21 => exact fun _ _ _ h => h
      case hs21 | hf21 | hr21 => kernel_rfl
      case hw21 => rfl
      case hy21 => (intro w1 hSw; (try dsimp only at hSw); go_simp; try with_reducible rfl)
      (try simp only [Act.put, List.setIfInBounds_toArray, List.set_cons_zero, List.set_cons_succ])
      refine wpAnyH_done (by kernel_rfl) ?_ _
      clear hHeld
      have HM := hM
      have HQ := hQ
      have HD := hD
      have hval9 : val.size ≤ 9 := by omega
      clear hval
      clear hM hQ hD
      go_wp2_with fail
      refine wp_region_held_drew (S := (fun w' => w'.cell? ⟨M, 0, none⟩ = some (.int .i64 k) ∧ w'.cell? ⟨M, 1, none⟩ = some (.int .i64 sn) ∧ w'.cell? ⟨M, 2, none⟩ = some (.int .i64 r) ∧ w'.cell? ⟨M, 3, none⟩ = some (.slice a1 ks.length c1) ∧ w'.cell? ⟨M, 4, none⟩ = some (.slice b1 vs.length d1))) (by kernel_rfl) (by exact HM.out.cl) (fun hHeld => ?_)
      have hM := hid HM.out.drew
      have hQ := hid (HQ.out.bel (Below.refl _ _).drew)
      have hD := hid HD.out.drew
      clear HM HQ HD
      generalize wr4.drew = W1 at *
      refine wpAnyH_take (i := 0) (oi := ?oi22) (v := ?v22) (fuel := 6) ?hi22 ?hs22 ?hf22 ?hr22 ?hq22 (Or.inl ⟨?hw22, ?hy22⟩) hHeld ?rest22
      case hi22 => rw [List.getElem?_toArray]; rfl
      case hq22 => exact fun _ _ _ h => h
      case hs22 | hf22 | hr22 => kernel_rfl
      case hw22 => rfl
      case hy22 => (intro w1 hSw; (try dsimp only at hSw); go_simp; try with_reducible rfl)
      (try simp only [Act.put, List.setIfInBounds_toArray, List.set_cons_zero, List.set_cons_succ])
      refine wpAnyH_take (i := 1) (oi := ?oi23) (v := ?v23) (fuel := 5) ?hi23 ?hs23 ?hf23 ?hr23 ?hq23 (Or.inl ⟨?hw23, ?hy23⟩) hHeld ?rest23
      case hi23 => rw [List.getElem?_toArray]; rfl
      case hq23 => exact fun _ _ _ h => h
      case hs23 | hf23 | hr23 => kernel_rfl
      case hw23 => rfl
      case hy23 => (intro w1 hSw; (try dsimp only at hSw); go_simp; try with_reducible rfl)
      (try simp only [Act.put, List.setIfInBounds_toArray, List.set_cons_zero, List.set_cons_succ])
      refine wpAnyH_take (i := 3) (oi := ?oi24) (v := ?v24) (fuel := 4) ?hi24 ?hs24 ?hf24 ?hr24 ?hq24 (Or.inl ⟨?hw24, ?hy24⟩) hHeld ?rest24
      case hi24 => rw [List.getElem?_toArray]; rfl
      case hq24 => exact fun _ _ _ h => h
      case hs24 | hf24 | hr24 => kernel_rfl
      case hw24 => rfl
      case hy24 => (intro w1 hSw; (try dsimp only at hSw); go_simp; try with_reducible rfl)
      (try simp only [Act.put, List.setIfInBounds_toArray, List.set_cons_zero, List.set_cons_succ])
      refine wpAnyH_ready (fuel := 3) (rs := [2]) (by kernel_rfl) (by simp) ?_
      refine AllReadyH.cons (o := ?oi25) ?hi25 (fun K hK => ?st25) AllReadyH.nil
      case hi25 => rw [List.getElem?_toArray]; rfl
      go_simp
      refine (key_k hD.out.rs (by omega)).mono ?_
      rintro ee wr2 ⟨key, rfl, k4⟩
      replace hM := hid (hM.out.kept (by omega) hD.out.rs k4)
      replace hQ := hid (hQ.out.k3 (by omega) k4)
      replace hD := hid (hD.out.draw k4)
      clear k4
      go_wp2_with fail
      refine hK.out _ _ ?hS25 (fun hHeld => ?re25)
      case hS25 => exact hM.out.cl
      clear hK K
      (try simp only [Act.put, List.setIfInBounds_toArray, List.set_cons_zero, List.set_cons_succ])
      refine wpAnyH_ready (fuel := 2) (rs := [4]) (by kernel_rfl) (by simp) ?_
      refine AllReadyH.cons (o := ?oi26) ?hi26 (fun K hK => ?st26) AllReadyH.nil
      case hi26 => rw [List.getElem?_toArray]; rfl
      obtain ⟨y0, y1, y2, y3, y4⟩ := Box5.cells hQ.out
      have fQ := Box5.frozen hQ.out
      have lQ := Box5.lt hQ.out
      go_simp
      clear y0 y1 y2 y3 y4 fQ lQ
      refine hK.out _ _ ?hS26 (fun hHeld => ?re26)
      case hS26 => exact Box5.cells (Box5.st5o (Y := w.heap.size) hM.out.box (by omega) k sn r (.slice a1 ks.length c1) (.slice b1 vs.length d1))
      clear hK K
      (try simp only [Act.put, List.setIfInBounds_toArray, List.set_cons_zero, List.set_cons_succ])
      refine wpAnyH_take (i := 5) (oi := ?oi27) (v := ?v27) (fuel := 1) ?hi27 ?hs27 ?hf27 ?hr27 ?hq27 (Or.inl ⟨?hw27, ?hy27⟩) hHeld ?rest27
      case hi27 => rw [List.getElem?_toArray]; rfl
      case hq27 => exact fun _ _ _ h => h
      case hs27 | hf27 | hr27 => kernel_rfl
      case hw27 => rfl
      case hy27 => (intro w1 hSw; (try dsimp only at hSw); go_simp; try with_reducible rfl)
      (try simp only [Act.put, List.setIfInBounds_toArray, List.set_cons_zero, List.set_cons_succ])
      refine wpAnyH_take (i := 6) (oi := ?oi28) (v := ?v28) (fuel := 0) ?hi28 ?hs28 ?hf28 ?hr28 ?hq28 (Or.inl ⟨?hw28, ?hy28⟩) hHeld ?rest28
      case hi28 => rw [List.getElem?_toArray]; rfl
      case hq28 => exact fun _ _ _ h => h
      case hs28 | hf28 | hr28 => kernel_rfl
      case hw28 => rfl
      case hy28 => (intro w1 hSw; (try dsimp only at hSw); go_simp; try with_reducible rfl)
      (try simp only [Act.put, List.setIfInBounds_toArray, List.set_cons_zero, List.set_cons_succ])
      refine wpAnyH_done (by kernel_rfl) ?_ _
      clear hHeld
      have R5 := hid (RW.st5 hQ.out hM.out.rw (k' := k) (s' := sn) (r' := r) (v' := .slice a1 ks.length c1) (u' := .slice b1 vs.length d1))
      have P5 := hid (Box5.cells (Box5.st5 hQ.out (k' := k) (s' := sn) (r' := r) (v' := .slice a1 ks.length c1) (u' := .slice b1 vs.length d1)))
      have B5' := hid (st5_below w.heap.size k sn r (.slice a1 ks.length c1) (.slice b1 vs.length d1) (hz.trans (hD.out.rs.bel.mono (Nat.le_of_lt lz))) (Nat.le_refl _))
      go_wp2_with fail
      obtain ⟨p0, p1, p2, p3, p4⟩ := P5.out
      unfold st5 at p0 p1 p2 p3 p4
      refine bodyPost_ret (v := .tuple #[.agg #[.int .i64 k, .int .i64 sn, .int .i64 r, .slice a1 ks.length c1, .slice b1 vs.length d1], .int .i64 key, .string val]) (by simp [results, Try.results15, go_sem, p0, p1, p2, p3, p4]) rfl ?_
      exact ⟨k, sn, r, ks, vs, a1, b1, c1, d1, key, val, rfl, R5.out, hk, hv, hval9, B5'.out⟩
end Go.Proofs.Ytahbicegmioplaa
