/- The draw of a program. -/
import Derived.Test.YtkaekiodjjhjkaaQKP0
namespace Go.Proofs.Ytkaekiodjjhjkaa
open Go.RowKit
set_option linter.unusedVariables false
set_option linter.unusedSimpArgs false

set_option maxRecDepth 100000 in
set_option maxHeartbeats 4000000 in
theorem prog_k {w0 w : World} {B : Nat} {a : Option Addr} {len cap p : Nat} (h : RS w0 w B a len cap p) (hp : p ≤ 600000) :
    Calls Try.prog 30 #[.pointer (some ⟨B, 0, none⟩)] w fun e w' => AnL w.heap.size w' e ∧ ∃ q, q ≤ p + 450 ∧ K3 w0 w w' B a len cap q := by
  obtain ⟨i0, hi, hz0, hz1, hz2⟩ := info_parts info25
  have H := hid h
  clear h
  go_enter Try.func30, Try.ntmps30
  go_wp2_with fail
  refine (make_k H.out (by omega)).mono ?_
  rintro e w1 ⟨⟨xs, x, c, rfl, hx1, hx40, hr⟩, q, hq, kk⟩
  have HR := hid hr
  have HD := hid kk
  have HL := hid (rfl : xs.length = xs.length)
  clear hr kk H
  obtain ⟨n, hnn⟩ : ∃ n, xs.length = n := ⟨_, rfl⟩
  rw [hnn] at HR hx1 hx40
  replace HL := hid hnn
  try rw [hnn]
  clear hnn
  go_wp2_with fail
  refine (pick_k HD.out.rs (by omega) 2 (by omega) (by omega)).mono ?_
  rintro e w2 ⟨m2, rfl, hm2, kk⟩
  replace HR := hid (row_kept (by decide) HD.out.rs kk HR.out)
  replace HD := hid (HD.out.draw kk)
  clear kk
  have hm20 : (0 : Int) ≤ (m2 : Int) := by omega
  generalize (m2 : Int) = y2 at *
  have hc2 : y2 = 0 ∨ 0 < y2 := by omega
  rcases hc2 with rfl | hy2
  · skip
    go_wp2_with fail
    refine (lines_w _).mono ?_
    rintro e w3 ⟨⟨G, rfl, hall⟩, b3⟩
    replace HD := hid (HD.out.below b3)
    have HG := hid hall
    clear b3 hall HR HL hx1 hx40
    skip
    go_wp2_with fail
    refine (pick_k HD.out.rs (by omega) 15 (by omega) (by omega)).mono ?_
    rintro e wl ⟨ml, rfl, hml, kk⟩
    replace HG := hid (HG.out.k3 HD.out.rs kk)
    replace HD := hid (HD.out.draw kk)
    clear kk
    obtain ⟨v, hcell, L, l, rfl, hsl, hl2, hl13, hsz⟩ := HG.out.2 ml (by omega)
    have hml0 : (0 : Int) ≤ (ml : Int) := by omega
    have hGl := HG.out.1
    have HS := hid hsl
    have HZ := hid hsz
    clear hsl hsz
    go_wp2_with fail
    clear hcell
    refine (rdl_w l L l.length _ HS.out (by omega) HZ.out).mono ?_
    rintro e wr ⟨⟨xs, v0, rfl, hxl, hr⟩, b5⟩
    have HR := hid (own_mono hr HD.out.kp.1)
    replace HD := hid (HD.out.below b5)
    clear b5 hr
    obtain ⟨x, c, rfl⟩ := own_slice HR.out
    have hx1 : 1 ≤ xs.length := by omega
    have hx40 : xs.length ≤ 40 := by omega
    obtain ⟨n, hnn⟩ : ∃ n, xs.length = n := ⟨_, rfl⟩
    rw [hnn] at HR hx1 hx40
    have HL := hid hnn
    try rw [hnn]
    clear hxl HS HZ HG hnn
    obtain ⟨g, rfl⟩ := own_pos HR.out (by omega)
    have hn1 : (1 : Int) ≤ (n : Int) := by omega
    have hn2 : (n : Int) ≤ 40 := by omega
    go_wp2_with fail
    refine (pick_k HD.out.rs (by omega) 4 (by omega) (by omega)).mono ?_
    rintro e w4 ⟨m4, rfl, hm4, kk⟩
    replace HR := hid (row_kept (by decide) HD.out.rs kk HR.out)
    replace HD := hid (HD.out.draw kk)
    clear kk
    have hm40 : (0 : Int) ≤ (m4 : Int) := by omega
    generalize (m4 : Int) = y4 at *
    have hc4 : y4 = 0 ∨ 0 < y4 := by omega
    rcases hc4 with rfl | hy4
    · go_wp2_with fail
      refine (pick_k HD.out.rs (by omega) _ (by omega) (by omega)).mono ?_
      rintro e w5 ⟨k, rfl, hk, kk⟩
      replace HR := hid (row_kept (by decide) HD.out.rs kk HR.out)
      replace HD := hid (HD.out.draw kk)
      clear kk
      have hk0 : (0 : Int) ≤ (k : Int) := by omega
      go_wp2_with fail
      refine (pick_k HD.out.rs (by omega) 6 (by omega) (by omega)).mono ?_
      rintro e w6 ⟨m6, rfl, hm6, kk⟩
      replace HR := hid (row_kept (by decide) HD.out.rs kk HR.out)
      replace HD := hid (HD.out.draw kk)
      clear kk
      have hm60 : (0 : Int) ≤ (m6 : Int) := by omega
      generalize (m6 : Int) = y6 at *
      have hc6 : y6 = 0 ∨ y6 = 1 ∨ y6 = 2 ∨ y6 = 3 ∨ y6 = 4 ∨ 4 < y6 := by omega
      rcases hc6 with rfl | rfl | rfl | rfl | rfl | hy6
      · go_wp2_with fail
        refine (imm_k HD.out.rs (by omega)).mono ?_
        rintro e w7 ⟨v, rfl, hv, kk⟩
        replace HR := hid (row_kept (by decide) HD.out.rs kk HR.out)
        replace HD := hid (HD.out.draw kk)
        clear kk
        obtain ⟨⟨u0, hu0⟩, hf0⟩ := room_own HR.out (k * 6 + 4) (by omega)
        obtain ⟨_, _, gb, lg⟩ := own_cap HR.out
        obtain ⟨ys, hy1, hy2⟩ := flat_put xs k 4 (v : Int) (by omega) (by have := HL.out; omega)
        have h2 := own_put HR.out (show k * 6 + 4 < n * 6 by omega) (.int .i64 (v : Int))
        rw [← hy2] at h2
        have HR2 := hid h2
        have HD2 := hid (HD.out.set ⟨g, k * 6 + 4, none⟩ (.int .i64 (v : Int)) gb)
        have HY := hid (hy1.trans HL.out)
        clear h2 hy1 hy2
        go_wp2_with fail
        go_ret
        exact ⟨⟨ys, _, _, _, rfl, HY.out, by omega, by omega, HR2.out⟩, _, by omega, HD2.out⟩
      · go_wp2_with fail
        refine (one_k HD.out.rs (by omega) [-1, 0, 1, 2, -2, 12, 200] 3 (by decide) (by decide)).mono ?_
        rintro e w7 ⟨v, hv, rfl, kk⟩
        clear hv
        replace HR := hid (row_kept (by decide) HD.out.rs kk HR.out)
        replace HD := hid (HD.out.draw kk)
        clear kk
        obtain ⟨⟨u0, hu0⟩, hf0⟩ := room_own HR.out (k * 6 + 3) (by omega)
        obtain ⟨_, _, gb, lg⟩ := own_cap HR.out
        obtain ⟨ys, hy1, hy2⟩ := flat_put xs k 3 (v) (by omega) (by have := HL.out; omega)
        have h2 := own_put HR.out (show k * 6 + 3 < n * 6 by omega) (.int .i64 (v))
        rw [← hy2] at h2
        have HR2 := hid h2
        have HD2 := hid (HD.out.set ⟨g, k * 6 + 3, none⟩ (.int .i64 (v)) gb)
        have HY := hid (hy1.trans HL.out)
        clear h2 hy1 hy2
        go_wp2_with fail
        go_ret
        exact ⟨⟨ys, _, _, _, rfl, HY.out, by omega, by omega, HR2.out⟩, _, by omega, HD2.out⟩
      · go_wp2_with fail
        refine (pick_k HD.out.rs (by omega) 12 (by omega) (by omega)).mono ?_
        rintro e w7 ⟨m7, rfl, hm7, kk⟩
        replace HR := hid (row_kept (by decide) HD.out.rs kk HR.out)
        replace HD := hid (HD.out.draw kk)
        clear kk
        have hm70 : (0 : Int) ≤ (m7 : Int) := by omega
        obtain ⟨⟨u0, hu0⟩, hf0⟩ := room_own HR.out (k * 6 + 1) (by omega)
        obtain ⟨_, _, gb, lg⟩ := own_cap HR.out
        obtain ⟨ys, hy1, hy2⟩ := flat_put xs k 1 (m7 : Int) (by omega) (by have := HL.out; omega)
        have h2 := own_put HR.out (show k * 6 + 1 < n * 6 by omega) (.int .i64 (m7 : Int))
        rw [← hy2] at h2
        have HR2 := hid h2
        have HD2 := hid (HD.out.set ⟨g, k * 6 + 1, none⟩ (.int .i64 (m7 : Int)) gb)
        have HY := hid (hy1.trans HL.out)
        clear h2 hy1 hy2
        go_wp2_with fail
        go_ret
        exact ⟨⟨ys, _, _, _, rfl, HY.out, by omega, by omega, HR2.out⟩, _, by omega, HD2.out⟩
      · go_wp2_with fail
        refine (pick_k HD.out.rs (by omega) 22 (by omega) (by omega)).mono ?_
        rintro e w7 ⟨m7, rfl, hm7, kk⟩
        replace HR := hid (row_kept (by decide) HD.out.rs kk HR.out)
        replace HD := hid (HD.out.draw kk)
        clear kk
        have hm70 : (0 : Int) ≤ (m7 : Int) := by omega
        obtain ⟨⟨u0, hu0⟩, hf0⟩ := room_own HR.out (k * 6) (by omega)
        obtain ⟨_, _, gb, lg⟩ := own_cap HR.out
        obtain ⟨ys, hy1, hy2⟩ := flat_put xs k 0 (m7 : Int) (by omega) (by have := HL.out; omega)
        have h2 := own_put HR.out (show k * 6 < n * 6 by omega) (.int .i64 (m7 : Int))
        rw [Nat.add_zero] at hy2
        rw [← hy2] at h2
        have HR2 := hid h2
        have HD2 := hid (HD.out.set ⟨g, k * 6, none⟩ (.int .i64 (m7 : Int)) gb)
        have HY := hid (hy1.trans HL.out)
        clear h2 hy1 hy2
        go_wp2_with fail
        go_ret
        exact ⟨⟨ys, _, _, _, rfl, HY.out, by omega, by omega, HR2.out⟩, _, by omega, HD2.out⟩
      · go_wp2_with fail
        refine (pick_k HD.out.rs (by omega) 12 (by omega) (by omega)).mono ?_
        rintro e w7 ⟨m7, rfl, hm7, kk⟩
        replace HR := hid (row_kept (by decide) HD.out.rs kk HR.out)
        replace HD := hid (HD.out.draw kk)
        clear kk
        have hm70 : (0 : Int) ≤ (m7 : Int) := by omega
        have hw7 : IntKind.i64.wrap ((m7 : Int) - 1) = (m7 : Int) - 1 := by rw [IntKind.wrap_i64]; omega
        obtain ⟨⟨u0, hu0⟩, hf0⟩ := room_own HR.out (k * 6 + 2) (by omega)
        obtain ⟨_, _, gb, lg⟩ := own_cap HR.out
        obtain ⟨ys, hy1, hy2⟩ := flat_put xs k 2 ((m7 : Int) - 1) (by omega) (by have := HL.out; omega)
        have h2 := own_put HR.out (show k * 6 + 2 < n * 6 by omega) (.int .i64 ((m7 : Int) - 1))
        rw [← hy2] at h2
        have HR2 := hid h2
        have HD2 := hid (HD.out.set ⟨g, k * 6 + 2, none⟩ (.int .i64 ((m7 : Int) - 1)) gb)
        have HY := hid (hy1.trans HL.out)
        clear h2 hy1 hy2
        go_wp2_with fail
        go_ret
        exact ⟨⟨ys, _, _, _, rfl, HY.out, by omega, by omega, HR2.out⟩, _, by omega, HD2.out⟩
      · have z0 : (y6 == 0) = false := by simp; omega
        have z1 : (y6 == 1) = false := by simp; omega
        have z2 : (y6 == 2) = false := by simp; omega
        have z3 : (y6 == 3) = false := by simp; omega
        have z4 : (y6 == 4) = false := by simp; omega
        obtain ⟨hnc, hcm, gb, lg⟩ := own_cap HR.out
        have hc0 : ¬ c = 0 := by omega
        have hck : ¬ c = k := by omega
        have hki : (k : Int) ≤ (c : Int) := by omega
        have hkn : (k : Int) ≤ (n : Int) := by omega
        have hkn0 : ¬ ((k : Int) < 0) := by omega
        go_wp2_with fail
        refine wp_region_held_drew (S := (fun _ => True)) (by kernel_rfl) (trivial) (fun hHeld => ?_)
        have bd : Below w6.heap.size w6 w6.drew := (Below.refl _ _).drew
        replace HR := hid (own_below HR.out bd)
        replace HD := hid (HD.out.below bd)
        clear bd lg
        generalize w6.drew = W1 at *
        have lg1 := (own_cap HR.out).2.2.2
        have lw1 := HD.out.kp.1
        refine wpAnyH_take (i := 1) (oi := ?oi1) (v := ?v1) (fuel := 13) ?hi1 ?hs1 ?hf1 ?hr1 ?hq1 (Or.inl ⟨?hw1, ?hy1⟩) hHeld ?rest1
        case hi1 => rw [List.getElem?_toArray]; rfl
        case hq1 => exact fun _ _ _ h => h
        case hs1 | hf1 | hr1 => kernel_rfl
        case hw1 => rfl
        case hy1 => (intro w1 hSw; (try dsimp only at hSw); go_simp; try with_reducible rfl)
        (try simp only [Act.put, List.setIfInBounds_toArray, List.set_cons_zero, List.set_cons_succ])
        refine wpAnyH_take (i := 2) (oi := ?oi2) (v := ?v2) (fuel := 12) ?hi2 ?hs2 ?hf2 ?hr2 ?hq2 (Or.inl ⟨?hw2, ?hy2⟩) hHeld ?rest2
        case hi2 => rw [List.getElem?_toArray]; rfl
        case hq2 => exact fun _ _ _ h => h
        case hs2 | hf2 | hr2 => kernel_rfl
        case hw2 => rfl
        case hy2 => (intro w1 hSw; (try dsimp only at hSw); go_simp; try with_reducible rfl)
        (try simp only [Act.put, List.setIfInBounds_toArray, List.set_cons_zero, List.set_cons_succ])
        refine wpAnyH_take (i := 3) (oi := ?oi3) (v := .slice (some ⟨g, 0, none⟩) k c) (fuel := 11) ?hi3 ?hs3 ?hf3 ?hr3 ?hq3 (Or.inl ⟨?hw3, ?hy3⟩) hHeld ?rest3
        case hi3 => rw [List.getElem?_toArray]; rfl
        case hq3 => exact fun _ _ _ h => h
        case hs3 | hf3 | hr3 => kernel_rfl
        case hw3 => rfl
        case hy3 => (intro w1 hSw; (try dsimp only at hSw); go_simp; try simp [Addr.add, hc0, hki])
        (try simp only [Act.put, List.setIfInBounds_toArray, List.set_cons_zero, List.set_cons_succ])
        refine wpAnyH_take (i := 5) (oi := ?oi4) (v := ?v4) (fuel := 10) ?hi4 ?hs4 ?hf4 ?hr4 ?hq4 (Or.inl ⟨?hw4, ?hy4⟩) hHeld ?rest4
        case hi4 => rw [List.getElem?_toArray]; rfl
        case hq4 => exact fun _ _ _ h => h
        case hs4 | hf4 | hr4 => kernel_rfl
        case hw4 => rfl
        case hy4 => (intro w1 hSw; (try dsimp only at hSw); go_simp; try with_reducible rfl)
        (try simp only [Act.put, List.setIfInBounds_toArray, List.set_cons_zero, List.set_cons_succ])
        refine wpAnyH_take (i := 9) (oi := ?oi5) (v := ?v5) (fuel := 9) ?hi5 ?hs5 ?hf5 ?hr5 ?hq5 (Or.inl ⟨?hw5, ?hy5⟩) hHeld ?rest5
        case hi5 => rw [List.getElem?_toArray]; rfl
        case hq5 => exact fun _ _ _ h => h
        case hs5 | hf5 | hr5 => kernel_rfl
        case hw5 => rfl
        case hy5 => (intro w1 hSw; (try dsimp only at hSw); go_simp; try with_reducible rfl)
        (try simp only [Act.put, List.setIfInBounds_toArray, List.set_cons_zero, List.set_cons_succ])
        refine wpAnyH_take (i := 10) (oi := ?oi6) (v := ?v6) (fuel := 8) ?hi6 ?hs6 ?hf6 ?hr6 ?hq6 (Or.inl ⟨?hw6, ?hy6⟩) hHeld ?rest6
        case hi6 => rw [List.getElem?_toArray]; rfl
        case hq6 => exact fun _ _ _ h => h
        case hs6 | hf6 | hr6 => kernel_rfl
        case hw6 => rfl
        case hy6 => (intro w1 hSw; (try dsimp only at hSw); go_simp; try with_reducible rfl)
        (try simp only [Act.put, List.setIfInBounds_toArray, List.set_cons_zero, List.set_cons_succ])
        refine wpAnyH_take (i := 11) (oi := ?oi7) (v := .slice (some ⟨g, k * 6, none⟩) (n - k) (c - k)) (fuel := 7) ?hi7 ?hs7 ?hf7 ?hr7 ?hq7 (Or.inl ⟨?hw7, ?hy7⟩) hHeld ?rest7
        case hi7 => rw [List.getElem?_toArray]; rfl
        case hq7 => exact fun _ _ _ h => h
        case hs7 | hf7 | hr7 => kernel_rfl
        case hw7 => rfl
        case hy7 => (intro w1 hSw; (try dsimp only at hSw); go_simp; try simp [Addr.add, hck, hki, hkn])
        (try simp only [Act.put, List.setIfInBounds_toArray, List.set_cons_zero, List.set_cons_succ])
        refine wpAnyH_ready (fuel := 6) (rs := [0]) (by kernel_rfl) (by simp) ?_
        refine AllReadyH.cons (o := ?oi8) ?hi8 (fun K hK => ?st8) AllReadyH.nil
        case hi8 => rw [List.getElem?_toArray]; rfl
        go_simp
        have L0 := hid (made06 W1 W1.heap.size W1.heap.size 86 rfl (Nat.le_refl _))
        have ba : Below W1.heap.size W1 (W1.alloc (.cells #[] 86)) := (Below.refl _ _).alloc (Nat.le_refl _) _
        have hs0 := ba.size
        replace HR := hid (own_below HR.out ba)
        replace HD := hid (HD.out.below ba)
        clear ba
        generalize W1.alloc (.cells #[] 86) = wr0 at *
        generalize W1.heap.size = G0 at *
        refine hK.out _ _ ?hS8 (fun hHeld => ?re8)
        case hS8 => trivial
        clear hK K
        (try simp only [Act.put, List.setIfInBounds_toArray, List.set_cons_zero, List.set_cons_succ])
        refine wpAnyH_ready (fuel := 5) (rs := [4]) (by kernel_rfl) (by simp) ?_
        refine AllReadyH.cons (o := ?oi9) ?hi9 (fun K hK => ?st9) AllReadyH.nil
        case hi9 => rw [List.getElem?_toArray]; rfl
        rw [if_pos (by first | rfl | kernel_rfl)]
        refine wp_append_own _ _ _ 40 rfl G0 86 i0 (.agg #[.int .i64 0, .int .i64 0, .int .i64 0, .int .i64 0, .int .i64 0, .int .i64 0]) 6 48 Try.underlying40 hi hz0 hz1 hz2 rfl (by decide) _ _ _ rfl L0.out ⟨g, 0, none⟩ k c (flat (xs.take k)) rfl (by rw [flat_length, List.length_take]; have := HL.out; omega) (row_front HR.out (by omega)) (flat_one _) (by unfold maxLen; omega) (by omega) hs0 ?_
        intro v1 wr4 hown1 hgrow1 _
        have hs4 := hgrow1.size
        replace HR := hid (HR.out.kept hgrow1 (own_apart L0.out lg1))
        replace HD := hid (HD.out.belowN ((Below.refl _ _).grown hgrow1 HD.out.kp.1 (fun j hj => Nat.le_trans lw1 (own_base L0.out j hj))))
        have L1 := hid hown1
        clear hown1 hgrow1 L0
        refine hK.out _ _ ?hS9 (fun hHeld => ?re9)
        case hS9 => trivial
        clear hK K
        (try simp only [Act.put, List.setIfInBounds_toArray, List.set_cons_zero, List.set_cons_succ])
        refine wpAnyH_ready (fuel := 4) (rs := [6]) (by kernel_rfl) (by simp) ?_
        refine AllReadyH.cons (o := ?oi10) ?hi10 (fun K hK => ?st10) AllReadyH.nil
        case hi10 => rw [List.getElem?_toArray]; rfl
        go_simp
        refine (alu_k HD.out.rs (by omega)).mono ?_
        rintro ee wr6 ⟨⟨z0, z1, z2, z3, z4, z5, rfl⟩, q2, hq2, kk⟩
        have hs6 := kk.kp.1
        replace HR := hid (row_kept (by decide) HD.out.rs kk HR.out)
        replace L1 := hid (row_kept (by decide) HD.out.rs kk L1.out)
        replace HD := hid (HD.out.draw kk)
        clear kk
        go_wp2_with fail
        refine hK.out _ _ ?hS10 (fun hHeld => ?re10)
        case hS10 => trivial
        clear hK K
        (try simp only [Act.put, List.setIfInBounds_toArray, List.set_cons_zero, List.set_cons_succ])
        refine wpAnyH_ready (fuel := 3) (rs := [7]) (by kernel_rfl) (by simp) ?_
        refine AllReadyH.cons (o := ?oi11) ?hi11 (fun K hK => ?st11) AllReadyH.nil
        case hi11 => rw [List.getElem?_toArray]; rfl
        go_simp
        have NW := hid (news6e wr6 z0 z1 z2 z3 z4 z5 rfl)
        have ba : Below wr6.heap.size wr6 (wr6.alloc (.cells #[.int .i64 z0, .int .i64 z1, .int .i64 z2, .int .i64 z3, .int .i64 z4, .int .i64 z5] 86)) := (Below.refl _ _).alloc (Nat.le_refl _) _
        have hs7 := ba.size
        replace HR := hid (own_below HR.out ba)
        replace L1 := hid (own_below L1.out ba)
        replace HD := hid (HD.out.below ba)
        clear ba
        generalize wr6.alloc (.cells #[.int .i64 z0, .int .i64 z1, .int .i64 z2, .int .i64 z3, .int .i64 z4, .int .i64 z5] 86) = wr7 at *
        generalize wr6.heap.size = G7 at *
        refine hK.out _ _ ?hS11 (fun hHeld => ?re11)
        case hS11 => trivial
        clear hK K
        (try simp only [Act.put, List.setIfInBounds_toArray, List.set_cons_zero, List.set_cons_succ])
        refine wpAnyH_ready (fuel := 2) (rs := [8]) (by kernel_rfl) (by simp) ?_
        refine AllReadyH.cons (o := ?oi12) ?hi12 (fun K hK => ?st12) AllReadyH.nil
        case hi12 => rw [List.getElem?_toArray]; rfl
        rw [if_pos (by first | rfl | kernel_rfl)]
        refine wp_append_own _ _ _ 40 rfl G0 86 i0 (.agg #[.int .i64 0, .int .i64 0, .int .i64 0, .int .i64 0, .int .i64 0, .int .i64 0]) 6 48 Try.underlying40 hi hz0 hz1 hz2 rfl (by decide) _ _ _ rfl L1.out ⟨G7, 0, none⟩ 1 1 [.int .i64 z0, .int .i64 z1, .int .i64 z2, .int .i64 z3, .int .i64 z4, .int .i64 z5] rfl rfl NW.out (by simp [Value.oneCell']) (by unfold maxLen; omega) (by omega) (by omega) ?_
        intro v2 wr8 hown1 hgrow1 _
        have hs8 := hgrow1.size
        replace HR := hid (HR.out.kept hgrow1 (own_apart L1.out lg1))
        replace HD := hid (HD.out.belowN ((Below.refl _ _).grown hgrow1 HD.out.kp.1 (fun j hj => Nat.le_trans lw1 (own_base L1.out j hj))))
        have L2 := hid hown1
        clear hown1 hgrow1 L1 NW
        refine hK.out _ _ ?hS12 (fun hHeld => ?re12)
        case hS12 => trivial
        clear hK K
        (try simp only [Act.put, List.setIfInBounds_toArray, List.set_cons_zero, List.set_cons_succ])
        refine wpAnyH_ready (fuel := 1) (rs := [12]) (by kernel_rfl) (by simp) ?_
        refine AllReadyH.cons (o := ?oi13) ?hi13 (fun K hK => ?st13) AllReadyH.nil
        case hi13 => rw [List.getElem?_toArray]; rfl
        rw [if_pos (by first | rfl | kernel_rfl)]
        refine wp_append_own _ _ _ 40 rfl G0 86 i0 (.agg #[.int .i64 0, .int .i64 0, .int .i64 0, .int .i64 0, .int .i64 0, .int .i64 0]) 6 48 Try.underlying40 hi hz0 hz1 hz2 rfl (by decide) _ _ _ rfl L2.out ⟨g, k * 6, none⟩ (n - k) (c - k) (flat (xs.drop k)) rfl (by rw [flat_length, List.length_drop, HL.out]) (row_back HR.out) (flat_one _) (by unfold maxLen; omega) (by omega) (by omega) ?_
        intro v3 wr12 hown1 hgrow1 _
        replace HR := hid (HR.out.kept hgrow1 (own_apart L2.out lg1))
        replace HD := hid (HD.out.belowN ((Below.refl _ _).grown hgrow1 HD.out.kp.1 (fun j hj => Nat.le_trans lw1 (own_base L2.out j hj))))
        have L3 := hid hown1
        clear hown1 hgrow1 L2
        refine hK.out _ _ ?hS13 (fun hHeld => ?re13)
        case hS13 => trivial
        clear hK K
        (try simp only [Act.put, List.setIfInBounds_toArray, List.set_cons_zero, List.set_cons_succ])
        refine wpAnyH_take (i := 13) (oi := ?oi14) (v := ?v14) (fuel := 0) ?hi14 ?hs14 ?hf14 ?hr14 ?hq14 (Or.inl ⟨?hw14, ?hy14⟩) hHeld ?rest14
        case hi14 => rw [List.getElem?_toArray]; rfl
        case hq14 => exact fun _ _ _ h => h
        case hs14 | hf14 | hr14 => kernel_rfl
        case hw14 => rfl
        case hy14 => (intro w1 hSw; (try dsimp only at hSw); go_simp; try with_reducible rfl)
        (try simp only [Act.put, List.setIfInBounds_toArray, List.set_cons_zero, List.set_cons_succ])
        refine wpAnyH_done (by kernel_rfl) ?_ _
        clear hHeld
        have L4 : Hid (wr12.ownsRow w.heap.size 86 6 v3 (n + 1) (flat (xs.take k ++ [(⟨z0, z1, z2, z3, z4, z5⟩ : I6)] ++ xs.drop k))) := by
          have e1 : n + 1 = 0 + k + 1 + (n - k) := by omega
          show World.ownsRow _ _ _ _ _ _ _
          rw [e1, flat_app, flat_app]
          exact own_mono L3.out lw1
        have HLY : Hid ((xs.take k ++ [(⟨z0, z1, z2, z3, z4, z5⟩ : I6)] ++ xs.drop k).length = n + 1) := by
          show _ = _
          have := HL.out
          simp only [List.length_append, List.length_take, List.length_drop, List.length_cons, List.length_nil]
          omega
        generalize xs.take k ++ [(⟨z0, z1, z2, z3, z4, z5⟩ : I6)] ++ xs.drop k = ys at *
        obtain ⟨a9, c9, rfl⟩ := own_slice L4.out
        clear L3 HR
        go_wp2_with fail
        go_ret
        exact ⟨⟨ys, _, _, _, rfl, HLY.out, by omega, by omega, L4.out⟩, _, by omega, HD.out⟩
    · have z : (y4 == 0) = false := by simp; omega
      go_wp2_with fail
      go_ret
      exact ⟨⟨xs, _, _, _, rfl, HL.out, by omega, by omega, HR.out⟩, _, by omega, HD.out⟩
  · have z : (y2 == 0) = false := by simp; omega
    obtain ⟨g, rfl⟩ := own_pos HR.out (by omega)
    have hn1 : (1 : Int) ≤ (n : Int) := by omega
    have hn2 : (n : Int) ≤ 40 := by omega
    go_wp2_with fail
    refine (pick_k HD.out.rs (by omega) 4 (by omega) (by omega)).mono ?_
    rintro e w4 ⟨m4, rfl, hm4, kk⟩
    replace HR := hid (row_kept (by decide) HD.out.rs kk HR.out)
    replace HD := hid (HD.out.draw kk)
    clear kk
    have hm40 : (0 : Int) ≤ (m4 : Int) := by omega
    generalize (m4 : Int) = y4 at *
    have hc4 : y4 = 0 ∨ 0 < y4 := by omega
    rcases hc4 with rfl | hy4
    · go_wp2_with fail
      refine (pick_k HD.out.rs (by omega) _ (by omega) (by omega)).mono ?_
      rintro e w5 ⟨k, rfl, hk, kk⟩
      replace HR := hid (row_kept (by decide) HD.out.rs kk HR.out)
      replace HD := hid (HD.out.draw kk)
      clear kk
      have hk0 : (0 : Int) ≤ (k : Int) := by omega
      go_wp2_with fail
      refine (pick_k HD.out.rs (by omega) 6 (by omega) (by omega)).mono ?_
      rintro e w6 ⟨m6, rfl, hm6, kk⟩
      replace HR := hid (row_kept (by decide) HD.out.rs kk HR.out)
      replace HD := hid (HD.out.draw kk)
      clear kk
      have hm60 : (0 : Int) ≤ (m6 : Int) := by omega
      generalize (m6 : Int) = y6 at *
      have hc6 : y6 = 0 ∨ y6 = 1 ∨ y6 = 2 ∨ y6 = 3 ∨ y6 = 4 ∨ 4 < y6 := by omega
      rcases hc6 with rfl | rfl | rfl | rfl | rfl | hy6
      · go_wp2_with fail
        refine (imm_k HD.out.rs (by omega)).mono ?_
        rintro e w7 ⟨v, rfl, hv, kk⟩
        replace HR := hid (row_kept (by decide) HD.out.rs kk HR.out)
        replace HD := hid (HD.out.draw kk)
        clear kk
        obtain ⟨⟨u0, hu0⟩, hf0⟩ := room_own HR.out (k * 6 + 4) (by omega)
        obtain ⟨_, _, gb, lg⟩ := own_cap HR.out
        obtain ⟨ys, hy1, hy2⟩ := flat_put xs k 4 (v : Int) (by omega) (by have := HL.out; omega)
        have h2 := own_put HR.out (show k * 6 + 4 < n * 6 by omega) (.int .i64 (v : Int))
        rw [← hy2] at h2
        have HR2 := hid h2
        have HD2 := hid (HD.out.set ⟨g, k * 6 + 4, none⟩ (.int .i64 (v : Int)) gb)
        have HY := hid (hy1.trans HL.out)
        clear h2 hy1 hy2
        go_wp2_with fail
        go_ret
        exact ⟨⟨ys, _, _, _, rfl, HY.out, by omega, by omega, HR2.out⟩, _, by omega, HD2.out⟩
      · go_wp2_with fail
        refine (one_k HD.out.rs (by omega) [-1, 0, 1, 2, -2, 12, 200] 3 (by decide) (by decide)).mono ?_
        rintro e w7 ⟨v, hv, rfl, kk⟩
        clear hv
        replace HR := hid (row_kept (by decide) HD.out.rs kk HR.out)
        replace HD := hid (HD.out.draw kk)
        clear kk
        obtain ⟨⟨u0, hu0⟩, hf0⟩ := room_own HR.out (k * 6 + 3) (by omega)
        obtain ⟨_, _, gb, lg⟩ := own_cap HR.out
        obtain ⟨ys, hy1, hy2⟩ := flat_put xs k 3 (v) (by omega) (by have := HL.out; omega)
        have h2 := own_put HR.out (show k * 6 + 3 < n * 6 by omega) (.int .i64 (v))
        rw [← hy2] at h2
        have HR2 := hid h2
        have HD2 := hid (HD.out.set ⟨g, k * 6 + 3, none⟩ (.int .i64 (v)) gb)
        have HY := hid (hy1.trans HL.out)
        clear h2 hy1 hy2
        go_wp2_with fail
        go_ret
        exact ⟨⟨ys, _, _, _, rfl, HY.out, by omega, by omega, HR2.out⟩, _, by omega, HD2.out⟩
      · go_wp2_with fail
        refine (pick_k HD.out.rs (by omega) 12 (by omega) (by omega)).mono ?_
        rintro e w7 ⟨m7, rfl, hm7, kk⟩
        replace HR := hid (row_kept (by decide) HD.out.rs kk HR.out)
        replace HD := hid (HD.out.draw kk)
        clear kk
        have hm70 : (0 : Int) ≤ (m7 : Int) := by omega
        obtain ⟨⟨u0, hu0⟩, hf0⟩ := room_own HR.out (k * 6 + 1) (by omega)
        obtain ⟨_, _, gb, lg⟩ := own_cap HR.out
        obtain ⟨ys, hy1, hy2⟩ := flat_put xs k 1 (m7 : Int) (by omega) (by have := HL.out; omega)
        have h2 := own_put HR.out (show k * 6 + 1 < n * 6 by omega) (.int .i64 (m7 : Int))
        rw [← hy2] at h2
        have HR2 := hid h2
        have HD2 := hid (HD.out.set ⟨g, k * 6 + 1, none⟩ (.int .i64 (m7 : Int)) gb)
        have HY := hid (hy1.trans HL.out)
        clear h2 hy1 hy2
        go_wp2_with fail
        go_ret
        exact ⟨⟨ys, _, _, _, rfl, HY.out, by omega, by omega, HR2.out⟩, _, by omega, HD2.out⟩
      · go_wp2_with fail
        refine (pick_k HD.out.rs (by omega) 22 (by omega) (by omega)).mono ?_
        rintro e w7 ⟨m7, rfl, hm7, kk⟩
        replace HR := hid (row_kept (by decide) HD.out.rs kk HR.out)
        replace HD := hid (HD.out.draw kk)
        clear kk
        have hm70 : (0 : Int) ≤ (m7 : Int) := by omega
        obtain ⟨⟨u0, hu0⟩, hf0⟩ := room_own HR.out (k * 6) (by omega)
        obtain ⟨_, _, gb, lg⟩ := own_cap HR.out
        obtain ⟨ys, hy1, hy2⟩ := flat_put xs k 0 (m7 : Int) (by omega) (by have := HL.out; omega)
        have h2 := own_put HR.out (show k * 6 < n * 6 by omega) (.int .i64 (m7 : Int))
        rw [Nat.add_zero] at hy2
        rw [← hy2] at h2
        have HR2 := hid h2
        have HD2 := hid (HD.out.set ⟨g, k * 6, none⟩ (.int .i64 (m7 : Int)) gb)
        have HY := hid (hy1.trans HL.out)
        clear h2 hy1 hy2
        go_wp2_with fail
        go_ret
        exact ⟨⟨ys, _, _, _, rfl, HY.out, by omega, by omega, HR2.out⟩, _, by omega, HD2.out⟩
      · go_wp2_with fail
        refine (pick_k HD.out.rs (by omega) 12 (by omega) (by omega)).mono ?_
        rintro e w7 ⟨m7, rfl, hm7, kk⟩
        replace HR := hid (row_kept (by decide) HD.out.rs kk HR.out)
        replace HD := hid (HD.out.draw kk)
        clear kk
        have hm70 : (0 : Int) ≤ (m7 : Int) := by omega
        have hw7 : IntKind.i64.wrap ((m7 : Int) - 1) = (m7 : Int) - 1 := by rw [IntKind.wrap_i64]; omega
        obtain ⟨⟨u0, hu0⟩, hf0⟩ := room_own HR.out (k * 6 + 2) (by omega)
        obtain ⟨_, _, gb, lg⟩ := own_cap HR.out
        obtain ⟨ys, hy1, hy2⟩ := flat_put xs k 2 ((m7 : Int) - 1) (by omega) (by have := HL.out; omega)
        have h2 := own_put HR.out (show k * 6 + 2 < n * 6 by omega) (.int .i64 ((m7 : Int) - 1))
        rw [← hy2] at h2
        have HR2 := hid h2
        have HD2 := hid (HD.out.set ⟨g, k * 6 + 2, none⟩ (.int .i64 ((m7 : Int) - 1)) gb)
        have HY := hid (hy1.trans HL.out)
        clear h2 hy1 hy2
        go_wp2_with fail
        go_ret
        exact ⟨⟨ys, _, _, _, rfl, HY.out, by omega, by omega, HR2.out⟩, _, by omega, HD2.out⟩
      · have z0 : (y6 == 0) = false := by simp; omega
        have z1 : (y6 == 1) = false := by simp; omega
        have z2 : (y6 == 2) = false := by simp; omega
        have z3 : (y6 == 3) = false := by simp; omega
        have z4 : (y6 == 4) = false := by simp; omega
        obtain ⟨hnc, hcm, gb, lg⟩ := own_cap HR.out
        have hc0 : ¬ c = 0 := by omega
        have hck : ¬ c = k := by omega
        have hki : (k : Int) ≤ (c : Int) := by omega
        have hkn : (k : Int) ≤ (n : Int) := by omega
        have hkn0 : ¬ ((k : Int) < 0) := by omega
        go_wp2_with fail
        refine wp_region_held_drew (S := (fun _ => True)) (by kernel_rfl) (trivial) (fun hHeld => ?_)
        have bd : Below w6.heap.size w6 w6.drew := (Below.refl _ _).drew
        replace HR := hid (own_below HR.out bd)
        replace HD := hid (HD.out.below bd)
        clear bd lg
        generalize w6.drew = W1 at *
        have lg1 := (own_cap HR.out).2.2.2
        have lw1 := HD.out.kp.1
        refine wpAnyH_take (i := 1) (oi := ?oi15) (v := ?v15) (fuel := 13) ?hi15 ?hs15 ?hf15 ?hr15 ?hq15 (Or.inl ⟨?hw15, ?hy15⟩) hHeld ?rest15
        case hi15 => rw [List.getElem?_toArray]; rfl
        case hq15 => exact fun _ _ _ h => h
        case hs15 | hf15 | hr15 => kernel_rfl
        case hw15 => rfl
        case hy15 => (intro w1 hSw; (try dsimp only at hSw); go_simp; try with_reducible rfl)
        (try simp only [Act.put, List.setIfInBounds_toArray, List.set_cons_zero, List.set_cons_succ])
        refine wpAnyH_take (i := 2) (oi := ?oi16) (v := ?v16) (fuel := 12) ?hi16 ?hs16 ?hf16 ?hr16 ?hq16 (Or.inl ⟨?hw16, ?hy16⟩) hHeld ?rest16
        case hi16 => rw [List.getElem?_toArray]; rfl
        case hq16 => exact fun _ _ _ h => h
        case hs16 | hf16 | hr16 => kernel_rfl
        case hw16 => rfl
        case hy16 => (intro w1 hSw; (try dsimp only at hSw); go_simp; try with_reducible rfl)
        (try simp only [Act.put, List.setIfInBounds_toArray, List.set_cons_zero, List.set_cons_succ])
        refine wpAnyH_take (i := 3) (oi := ?oi17) (v := .slice (some ⟨g, 0, none⟩) k c) (fuel := 11) ?hi17 ?hs17 ?hf17 ?hr17 ?hq17 (Or.inl ⟨?hw17, ?hy17⟩) hHeld ?rest17
        case hi17 => rw [List.getElem?_toArray]; rfl
        case hq17 => exact fun _ _ _ h => h
        case hs17 | hf17 | hr17 => kernel_rfl
        case hw17 => rfl
        case hy17 => (intro w1 hSw; (try dsimp only at hSw); go_simp; try simp [Addr.add, hc0, hki])
        (try simp only [Act.put, List.setIfInBounds_toArray, List.set_cons_zero, List.set_cons_succ])
        refine wpAnyH_take (i := 5) (oi := ?oi18) (v := ?v18) (fuel := 10) ?hi18 ?hs18 ?hf18 ?hr18 ?hq18 (Or.inl ⟨?hw18, ?hy18⟩) hHeld ?rest18
        case hi18 => rw [List.getElem?_toArray]; rfl
        case hq18 => exact fun _ _ _ h => h
        case hs18 | hf18 | hr18 => kernel_rfl
        case hw18 => rfl
        case hy18 => (intro w1 hSw; (try dsimp only at hSw); go_simp; try with_reducible rfl)
        (try simp only [Act.put, List.setIfInBounds_toArray, List.set_cons_zero, List.set_cons_succ])
        refine wpAnyH_take (i := 9) (oi := ?oi19) (v := ?v19) (fuel := 9) ?hi19 ?hs19 ?hf19 ?hr19 ?hq19 (Or.inl ⟨?hw19, ?hy19⟩) hHeld ?rest19
        case hi19 => rw [List.getElem?_toArray]; rfl
        case hq19 => exact fun _ _ _ h => h
        case hs19 | hf19 | hr19 => kernel_rfl
        case hw19 => rfl
        case hy19 => (intro w1 hSw; (try dsimp only at hSw); go_simp; try with_reducible rfl)
        (try simp only [Act.put, List.setIfInBounds_toArray, List.set_cons_zero, List.set_cons_succ])
        refine wpAnyH_take (i := 10) (oi := ?oi20) (v := ?v20) (fuel := 8) ?hi20 ?hs20 ?hf20 ?hr20 ?hq20 (Or.inl ⟨?hw20, ?hy20⟩) hHeld ?rest20
        case hi20 => rw [List.getElem?_toArray]; rfl
        case hq20 => exact fun _ _ _ h => h
        case hs20 | hf20 | hr20 => kernel_rfl
        case hw20 => rfl
        case hy20 => (intro w1 hSw; (try dsimp only at hSw); go_simp; try with_reducible rfl)
        (try simp only [Act.put, List.setIfInBounds_toArray, List.set_cons_zero, List.set_cons_succ])
        refine wpAnyH_take (i := 11) (oi := ?oi21) (v := .slice (some ⟨g, k * 6, none⟩) (n - k) (c - k)) (fuel := 7) ?hi21 ?hs21 ?hf21 ?hr21 ?hq21 (Or.inl ⟨?hw21, ?hy21⟩) hHeld ?rest21
        case hi21 => rw [List.getElem?_toArray]; rfl
        case hq21 => exact fun _ _ _ h => h
        case hs21 | hf21 | hr21 => kernel_rfl
        case hw21 => rfl
        case hy21 => (intro w1 hSw; (try dsimp only at hSw); go_simp; try simp [Addr.add, hck, hki, hkn])
        (try simp only [Act.put, List.setIfInBounds_toArray, List.set_cons_zero, List.set_cons_succ])
        refine wpAnyH_ready (fuel := 6) (rs := [0]) (by kernel_rfl) (by simp) ?_
        refine AllReadyH.cons (o := ?oi22) ?hi22 (fun K hK => ?st22) AllReadyH.nil
        case hi22 => rw [List.getElem?_toArray]; rfl
        go_simp
        have L0 := hid (made06 W1 W1.heap.size W1.heap.size 86 rfl (Nat.le_refl _))
        have ba : Below W1.heap.size W1 (W1.alloc (.cells #[] 86)) := (Below.refl _ _).alloc (Nat.le_refl _) _
        have hs0 := ba.size
        replace HR := hid (own_below HR.out ba)
        replace HD := hid (HD.out.below ba)
        clear ba
        generalize W1.alloc (.cells #[] 86) = wr0 at *
        generalize W1.heap.size = G0 at *
        refine hK.out _ _ ?hS22 (fun hHeld => ?re22)
        case hS22 => trivial
        clear hK K
        (try simp only [Act.put, List.setIfInBounds_toArray, List.set_cons_zero, List.set_cons_succ])
        refine wpAnyH_ready (fuel := 5) (rs := [4]) (by kernel_rfl) (by simp) ?_
        refine AllReadyH.cons (o := ?oi23) ?hi23 (fun K hK => ?st23) AllReadyH.nil
        case hi23 => rw [List.getElem?_toArray]; rfl
        rw [if_pos (by first | rfl | kernel_rfl)]
        refine wp_append_own _ _ _ 40 rfl G0 86 i0 (.agg #[.int .i64 0, .int .i64 0, .int .i64 0, .int .i64 0, .int .i64 0, .int .i64 0]) 6 48 Try.underlying40 hi hz0 hz1 hz2 rfl (by decide) _ _ _ rfl L0.out ⟨g, 0, none⟩ k c (flat (xs.take k)) rfl (by rw [flat_length, List.length_take]; have := HL.out; omega) (row_front HR.out (by omega)) (flat_one _) (by unfold maxLen; omega) (by omega) hs0 ?_
        intro v1 wr4 hown1 hgrow1 _
        have hs4 := hgrow1.size
        replace HR := hid (HR.out.kept hgrow1 (own_apart L0.out lg1))
        replace HD := hid (HD.out.belowN ((Below.refl _ _).grown hgrow1 HD.out.kp.1 (fun j hj => Nat.le_trans lw1 (own_base L0.out j hj))))
        have L1 := hid hown1
        clear hown1 hgrow1 L0
        refine hK.out _ _ ?hS23 (fun hHeld => ?re23)
        case hS23 => trivial
        clear hK K
        (try simp only [Act.put, List.setIfInBounds_toArray, List.set_cons_zero, List.set_cons_succ])
        refine wpAnyH_ready (fuel := 4) (rs := [6]) (by kernel_rfl) (by simp) ?_
        refine AllReadyH.cons (o := ?oi24) ?hi24 (fun K hK => ?st24) AllReadyH.nil
        case hi24 => rw [List.getElem?_toArray]; rfl
        go_simp
        refine (alu_k HD.out.rs (by omega)).mono ?_
        rintro ee wr6 ⟨⟨z0, z1, z2, z3, z4, z5, rfl⟩, q2, hq2, kk⟩
        have hs6 := kk.kp.1
        replace HR := hid (row_kept (by decide) HD.out.rs kk HR.out)
        replace L1 := hid (row_kept (by decide) HD.out.rs kk L1.out)
        replace HD := hid (HD.out.draw kk)
        clear kk
        go_wp2_with fail
        refine hK.out _ _ ?hS24 (fun hHeld => ?re24)
        case hS24 => trivial
        clear hK K
        (try simp only [Act.put, List.setIfInBounds_toArray, List.set_cons_zero, List.set_cons_succ])
        refine wpAnyH_ready (fuel := 3) (rs := [7]) (by kernel_rfl) (by simp) ?_
        refine AllReadyH.cons (o := ?oi25) ?hi25 (fun K hK => ?st25) AllReadyH.nil
        case hi25 => rw [List.getElem?_toArray]; rfl
        go_simp
        have NW := hid (news6e wr6 z0 z1 z2 z3 z4 z5 rfl)
        have ba : Below wr6.heap.size wr6 (wr6.alloc (.cells #[.int .i64 z0, .int .i64 z1, .int .i64 z2, .int .i64 z3, .int .i64 z4, .int .i64 z5] 86)) := (Below.refl _ _).alloc (Nat.le_refl _) _
        have hs7 := ba.size
        replace HR := hid (own_below HR.out ba)
        replace L1 := hid (own_below L1.out ba)
        replace HD := hid (HD.out.below ba)
        clear ba
        generalize wr6.alloc (.cells #[.int .i64 z0, .int .i64 z1, .int .i64 z2, .int .i64 z3, .int .i64 z4, .int .i64 z5] 86) = wr7 at *
        generalize wr6.heap.size = G7 at *
        refine hK.out _ _ ?hS25 (fun hHeld => ?re25)
        case hS25 => trivial
        clear hK K
        (try simp only [Act.put, List.setIfInBounds_toArray, List.set_cons_zero, List.set_cons_succ])
        refine wpAnyH_ready (fuel := 2) (rs := [8]) (by kernel_rfl) (by simp) ?_
        refine AllReadyH.cons (o := ?oi26) ?hi26 (fun K hK => ?st26) AllReadyH.nil
        case hi26 => rw [List.getElem?_toArray]; rfl
        rw [if_pos (by first | rfl | kernel_rfl)]
        refine wp_append_own _ _ _ 40 rfl G0 86 i0 (.agg #[.int .i64 0, .int .i64 0, .int .i64 0, .int .i64 0, .int .i64 0, .int .i64 0]) 6 48 Try.underlying40 hi hz0 hz1 hz2 rfl (by decide) _ _ _ rfl L1.out ⟨G7, 0, none⟩ 1 1 [.int .i64 z0, .int .i64 z1, .int .i64 z2, .int .i64 z3, .int .i64 z4, .int .i64 z5] rfl rfl NW.out (by simp [Value.oneCell']) (by unfold maxLen; omega) (by omega) (by omega) ?_
        intro v2 wr8 hown1 hgrow1 _
        have hs8 := hgrow1.size
        replace HR := hid (HR.out.kept hgrow1 (own_apart L1.out lg1))
        replace HD := hid (HD.out.belowN ((Below.refl _ _).grown hgrow1 HD.out.kp.1 (fun j hj => Nat.le_trans lw1 (own_base L1.out j hj))))
        have L2 := hid hown1
        clear hown1 hgrow1 L1 NW
        refine hK.out _ _ ?hS26 (fun hHeld => ?re26)
        case hS26 => trivial
        clear hK K
        (try simp only [Act.put, List.setIfInBounds_toArray, List.set_cons_zero, List.set_cons_succ])
        refine wpAnyH_ready (fuel := 1) (rs := [12]) (by kernel_rfl) (by simp) ?_
        refine AllReadyH.cons (o := ?oi27) ?hi27 (fun K hK => ?st27) AllReadyH.nil
        case hi27 => rw [List.getElem?_toArray]; rfl
        rw [if_pos (by first | rfl | kernel_rfl)]
        refine wp_append_own _ _ _ 40 rfl G0 86 i0 (.agg #[.int .i64 0, .int .i64 0, .int .i64 0, .int .i64 0, .int .i64 0, .int .i64 0]) 6 48 Try.underlying40 hi hz0 hz1 hz2 rfl (by decide) _ _ _ rfl L2.out ⟨g, k * 6, none⟩ (n - k) (c - k) (flat (xs.drop k)) rfl (by rw [flat_length, List.length_drop, HL.out]) (row_back HR.out) (flat_one _) (by unfold maxLen; omega) (by omega) (by omega) ?_
        intro v3 wr12 hown1 hgrow1 _
        replace HR := hid (HR.out.kept hgrow1 (own_apart L2.out lg1))
        replace HD := hid (HD.out.belowN ((Below.refl _ _).grown hgrow1 HD.out.kp.1 (fun j hj => Nat.le_trans lw1 (own_base L2.out j hj))))
        have L3 := hid hown1
        clear hown1 hgrow1 L2
        refine hK.out _ _ ?hS27 (fun hHeld => ?re27)
        case hS27 => trivial
        clear hK K
        (try simp only [Act.put, List.setIfInBounds_toArray, List.set_cons_zero, List.set_cons_succ])
        refine wpAnyH_take (i := 13) (oi := ?oi28) (v := ?v28) (fuel := 0) ?hi28 ?hs28 ?hf28 ?hr28 ?hq28 (Or.inl ⟨?hw28, ?hy28⟩) hHeld ?rest28
        case hi28 => rw [List.getElem?_toArray]; rfl
        case hq28 => exact fun _ _ _ h => h
        case hs28 | hf28 | hr28 => kernel_rfl
        case hw28 => rfl
        case hy28 => (intro w1 hSw; (try dsimp only at hSw); go_simp; try with_reducible rfl)
        (try simp only [Act.put, List.setIfInBounds_toArray, List.set_cons_zero, List.set_cons_succ])
        refine wpAnyH_done (by kernel_rfl) ?_ _
        clear hHeld
        have L4 : Hid (wr12.ownsRow w.heap.size 86 6 v3 (n + 1) (flat (xs.take k ++ [(⟨z0, z1, z2, z3, z4, z5⟩ : I6)] ++ xs.drop k))) := by
          have e1 : n + 1 = 0 + k + 1 + (n - k) := by omega
          show World.ownsRow _ _ _ _ _ _ _
          rw [e1, flat_app, flat_app]
          exact own_mono L3.out lw1
        have HLY : Hid ((xs.take k ++ [(⟨z0, z1, z2, z3, z4, z5⟩ : I6)] ++ xs.drop k).length = n + 1) := by
          show _ = _
          have := HL.out
          simp only [List.length_append, List.length_take, List.length_drop, List.length_cons, List.length_nil]
          omega
        generalize xs.take k ++ [(⟨z0, z1, z2, z3, z4, z5⟩ : I6)] ++ xs.drop k = ys at *
        obtain ⟨a9, c9, rfl⟩ := own_slice L4.out
        clear L3 HR
        go_wp2_with fail
        go_ret
        exact ⟨⟨ys, _, _, _, rfl, HLY.out, by omega, by omega, L4.out⟩, _, by omega, HD.out⟩
    · have z : (y4 == 0) = false := by simp; omega
      go_wp2_with fail
      go_ret
      exact ⟨⟨xs, _, _, _, rfl, HL.out, by omega, by omega, HR.out⟩, _, by omega, HD.out⟩
end Go.Proofs.Ytkaekiodjjhjkaa
