/- FnProgPut: a program is read back from its bytes. -/
import Derived.Test.YthholhabgdpndaaPX
namespace Go.Proofs.Ythholhabgdpndaa
open Go.RowKit
set_option linter.unusedVariables false
set_option linter.unusedSimpArgs false

set_option maxRecDepth 100000 in
set_option maxHeartbeats 4000000 in
theorem drawProgPut_w (w : World) (a : Option Addr) (len cap : Nat) (hc : len ≤ cap) (hs : Src w a len) (hl : cap < 2 ^ 63) :
    Calls Try.prog 16 #[.slice a len cap] w fun e w' => AnM w' e ∧ Below w.heap.size w w' := by
  have HS := hid hs
  clear hs
  go_enter Try.func16, Try.ntmps16
  go_wp2_with fail
  refine (drawForm_w w a len cap hc HS.out hl).mono ?_
  rintro e w1 ⟨⟨xs, x, c, rfl, h1, h2⟩, hb⟩
  have HA := hid h2
  have HB := hid hb
  clear h2 hb HS
  go_wp2_with fail
  go_ret
  exact ⟨⟨xs, x, c, rfl, h1, HA.out⟩, HB.out⟩

set_option maxRecDepth 100000 in
set_option maxHeartbeats 4000000 in
theorem law_fnProgPut (w : World) (a : Option Addr) (len cap : Nat) (hc : len ≤ cap) (hs : Src w a len) (hl : cap < 2 ^ 63) :
    Calls Try.prog 5 #[.slice a len cap] w fun e w' => e = .returned (.bool true) ∧ Below w.heap.size w w' := by
  have HS := hid hs
  clear hs
  go_enter Try.func5, Try.ntmps5
  go_wp2_with fail
  · go_ret
    exact ⟨rfl, Below.refl _ _⟩
  refine (drawProgPut_w w a len cap hc HS.out hl).mono ?_
  rintro e w0 ⟨⟨xs, x, c, rfl, hxn, hr⟩, hb0⟩
  have HA := hid hr
  have HB := hid hb0
  clear hr hb0 HS
  have hxn' : (xs.length : Int) ≤ 49 := by omega
  by_cases hf : formN xs = 0
  · have hps : Hid (progS xs = catS xs) := by show _ = _; rw [progS, if_pos hf]
    have hpg := hid (progG_cat hf)
    have hsz := cat_size xs
    have hnil := cat_nil (fine_ne hf)
    have hch : Hid (∀ k (h : k < xs.length), insS xs[k].o xs[k].d xs[k].s xs[k].f xs[k].i xs[k].z = (catS xs).extract (8 * k) (8 * k + 8)) := by
      intro k h
      rw [chunk_cat xs k h, insS, if_pos (show sokB _ _ _ _ _ _ = true from form_ok hf k h)]
      rfl
    have hemp : (catS xs).toList.isEmpty = false := by
      cases e : (catS xs).toList with
      | nil => exact absurd e hnil
      | cons => rfl
    have HF := hid hf
    have hne := fine_ne hf
    clear hf
    generalize catS xs = s at *
    have hsz' : (s.size : Int) = 8 * (xs.length : Int) := by omega
    go_wp2_with fail
    refine (pput_i xs x c _ HA.out (by omega)).mono ?_
    rw [hps.out]
    rintro e w1 ⟨rfl, b1⟩
    replace HA := hid (HA.out.below b1 (Nat.le_refl _))
    replace HB := hid (HB.out.to b1)
    clear b1
    go_wp2_with fail
    refine (pput_s xs x c _ HA.out (by omega)).mono ?_
    rw [hps.out]
    rintro e w2 ⟨rfl, b1⟩
    replace HA := hid (HA.out.below b1 (Nat.le_refl _))
    replace HB := hid (HB.out.to b1)
    clear b1
    go_wp2_with fail
    refine (form_i xs x c _ HA.out (by omega)).mono ?_
    rw [HF.out]
    rintro e w3 ⟨rfl, b1⟩
    replace HA := hid (HA.out.below b1 (Nat.le_refl _))
    replace HB := hid (HB.out.to b1)
    clear b1
    go_wp2_with fail
    refine (f25 s _ (by omega)).mono ?_
    rintro e w4 ⟨v, rfl, hpr, b1⟩
    rw [hpg.out] at hpr
    obtain ⟨g, c4, rfl, hg1, hg2, hrow, -⟩ := hpr
    have HG := hid hrow
    replace HA := hid (HA.out.below b1 (Nat.le_refl _))
    replace HB := hid (HB.out.to b1)
    clear b1 hrow
    obtain ⟨b, p, rfl, hb, hrow⟩ : ∃ b p, x = some ⟨b, p, none⟩ ∧ b < w4.heap.size ∧ InsRow w4 b p xs := by
      rcases HA.out with h | h
      · exact absurd h hne
      · exact h
    have HRW := hid hrow
    clear hrow HA hne
    go_wp2_with fail
    go_loopw [7] (fun i wr => ∃ k : Nat, k ≤ xs.length ∧ i = .int .i64 k ∧ Below w4.heap.size w4 wr) (fun i _ => xs.length - (intOf i).toNat)
    case atStart => exact ⟨0, Nat.zero_le _, rfl, Below.refl _ _⟩
    case round =>
      obtain ⟨k, hk, rfl, hbw⟩ := hrel
      by_cases hlt : k < xs.length
      · have hlt' : (k : Int) < (xs.length : Int) := by omega
        have hk0 : (0 : Int) ≤ (k : Int) := by omega
        obtain ⟨x, hx⟩ : ∃ x, x = xs[k] := ⟨_, rfl⟩
        have HX : Hid _ := hx
        have z1 : b < wr.heap.size := by have := hbw.size; omega
        obtain ⟨h0, h1, h2, h3, h4, h5⟩ := (HRW.out k hlt).below hbw hb
        have hi := hch.out k hlt
        rw [← hx] at h0 h1 h2 h3 h4 h5 hi
        have HI := hid hi
        clear hx hi
        have hw8 : IntKind.i64.wrap (8 * (k : Int)) = 8 * (k : Int) := by rw [IntKind.wrap_i64]; omega
        have hw88 : IntKind.i64.wrap (8 * (k : Int) + 8) = 8 * (k : Int) + 8 := by rw [IntKind.wrap_i64]; omega
        have hq1 : (8 * (k : Int)).toNat = 8 * k := by omega
        have hq2 : (8 * (k : Int) + 8).toNat = 8 * k + 8 := by omega
        have hq3 : (0 : Int) ≤ 8 * (k : Int) := by omega
        have hq4 : 8 * (k : Int) ≤ 8 * (k : Int) + 8 := by omega
        have hq5 : 8 * (k : Int) + 8 ≤ (s.size : Int) := by omega
        have hq6 : (0 : Int) ≤ 8 * (k : Int) + 8 := by omega
        go_wp2_with fail
        refine wp_region_held_drew (S := (fun w' => w'.cell? ⟨b, p + k * 6, none⟩ = some (.int .i64 x.o) ∧ w'.cell? ⟨b, p + k * 6 + 1, none⟩ = some (.int .i64 x.d) ∧ w'.cell? ⟨b, p + k * 6 + 2, none⟩ = some (.int .i64 x.s) ∧ w'.cell? ⟨b, p + k * 6 + 3, none⟩ = some (.int .i64 x.f) ∧ w'.cell? ⟨b, p + k * 6 + 4, none⟩ = some (.int .i64 x.i) ∧ w'.cell? ⟨b, p + k * 6 + 5, none⟩ = some (.int .i64 x.z) ∧ b < w'.heap.size)) (by kernel_rfl) (⟨h0, h1, h2, h3, h4, h5, z1⟩) (fun hHeld => ?_)
        replace hbw := hbw.drew
        clear h0 h1 h2 h3 h4 h5 z1
        generalize wr.drew = wr2 at *
        refine wpAnyH_take (i := 0) (oi := ?oi1) (v := ?v1) (fuel := 12) ?hi1 ?hs1 ?hf1 ?hr1 ?hq1 (Or.inl ⟨?hw1, ?hy1⟩) hHeld ?rest1
        case hi1 => rw [List.getElem?_toArray]; rfl
        case hq1 => exact fun _ _ _ h => h
        case hs1 | hf1 | hr1 => kernel_rfl
        case hw1 => rfl
        case hy1 => (intro w1 hSw; (try dsimp only at hSw); go_simp; try with_reducible rfl)
        (try simp only [Act.put, List.setIfInBounds_toArray, List.set_cons_zero, List.set_cons_succ])
        refine wpAnyH_take (i := 1) (oi := ?oi2) (v := ?v2) (fuel := 11) ?hi2 ?hs2 ?hf2 ?hr2 ?hq2 (Or.inl ⟨?hw2, ?hy2⟩) hHeld ?rest2
        case hi2 => rw [List.getElem?_toArray]; rfl
        case hq2 => exact fun _ _ _ h => h
        case hs2 | hf2 | hr2 => kernel_rfl
        case hw2 => rfl
        case hy2 => (intro w1 hSw; (try dsimp only at hSw); go_simp; try with_reducible rfl)
        (try simp only [Act.put, List.setIfInBounds_toArray, List.set_cons_zero, List.set_cons_succ])
        refine wpAnyH_take (i := 2) (oi := ?oi3) (v := .int .i64 (8 * (k : Int))) (fuel := 10) ?hi3 ?hs3 ?hf3 ?hr3 ?hq3 (Or.inl ⟨?hw3, ?hy3⟩) hHeld ?rest3
        case hi3 => rw [List.getElem?_toArray]; rfl
        case hq3 => exact fun _ _ _ h => h
        case hs3 | hf3 | hr3 => kernel_rfl
        case hw3 => rfl
        case hy3 => (intro w1 hSw; (try dsimp only at hSw); go_simp; try simp [hw8])
        (try simp only [Act.put, List.setIfInBounds_toArray, List.set_cons_zero, List.set_cons_succ])
        refine wpAnyH_take (i := 3) (oi := ?oi4) (v := ?v4) (fuel := 9) ?hi4 ?hs4 ?hf4 ?hr4 ?hq4 (Or.inl ⟨?hw4, ?hy4⟩) hHeld ?rest4
        case hi4 => rw [List.getElem?_toArray]; rfl
        case hq4 => exact fun _ _ _ h => h
        case hs4 | hf4 | hr4 => kernel_rfl
        case hw4 => rfl
        case hy4 => (intro w1 hSw; (try dsimp only at hSw); go_simp; try with_reducible rfl)
        (try simp only [Act.put, List.setIfInBounds_toArray, List.set_cons_zero, List.set_cons_succ])
        refine wpAnyH_take (i := 4) (oi := ?oi5) (v := .int .i64 (8 * (k : Int))) (fuel := 8) ?hi5 ?hs5 ?hf5 ?hr5 ?hq5 (Or.inl ⟨?hw5, ?hy5⟩) hHeld ?rest5
        case hi5 => rw [List.getElem?_toArray]; rfl
        case hq5 => exact fun _ _ _ h => h
        case hs5 | hf5 | hr5 => kernel_rfl
        case hw5 => rfl
        case hy5 => (intro w1 hSw; (try dsimp only at hSw); go_simp; try simp [hw8])
        (try simp only [Act.put, List.setIfInBounds_toArray, List.set_cons_zero, List.set_cons_succ])
        refine wpAnyH_take (i := 5) (oi := ?oi6) (v := .int .i64 (8 * (k : Int) + 8)) (fuel := 7) ?hi6 ?hs6 ?hf6 ?hr6 ?hq6 (Or.inl ⟨?hw6, ?hy6⟩) hHeld ?rest6
        case hi6 => rw [List.getElem?_toArray]; rfl
        case hq6 => exact fun _ _ _ h => h
        case hs6 | hf6 | hr6 => kernel_rfl
        case hw6 => rfl
        case hy6 => (intro w1 hSw; (try dsimp only at hSw); go_simp; try simp [hw88])
        (try simp only [Act.put, List.setIfInBounds_toArray, List.set_cons_zero, List.set_cons_succ])
        refine wpAnyH_take (i := 6) (oi := ?oi7) (v := .string (s.extract (8 * k) (8 * k + 8))) (fuel := 6) ?hi7 ?hs7 ?hf7 ?hr7 ?hq7 (Or.inl ⟨?hw7, ?hy7⟩) hHeld ?rest7
        case hi7 => rw [List.getElem?_toArray]; rfl
        case hq7 => exact fun _ _ _ h => h
        case hs7 | hf7 | hr7 => kernel_rfl
        case hw7 => rfl
        case hy7 => (intro w1 hSw; (try dsimp only at hSw); go_simp; (try simp [hq1, hq2, hq3, hq4, hq5]); (try (intro hz; exfalso; omega)))
        (try simp only [Act.put, List.setIfInBounds_toArray, List.set_cons_zero, List.set_cons_succ])
        refine wpAnyH_take (i := 7) (oi := ?oi8) (v := ?v8) (fuel := 5) ?hi8 ?hs8 ?hf8 ?hr8 ?hq8 (Or.inl ⟨?hw8, ?hy8⟩) hHeld ?rest8
        case hi8 => rw [List.getElem?_toArray]; rfl
        case hq8 => exact fun _ _ _ h => h
        case hs8 | hf8 | hr8 => kernel_rfl
        case hw8 => rfl
        case hy8 => (intro w1 hSw; (try dsimp only at hSw); go_simp; try with_reducible rfl)
        (try simp only [Act.put, List.setIfInBounds_toArray, List.set_cons_zero, List.set_cons_succ])
        refine wpAnyH_take (i := 8) (oi := ?oi9) (v := ?v9) (fuel := 4) ?hi9 ?hs9 ?hf9 ?hr9 ?hq9 (Or.inl ⟨?hw9, ?hy9⟩) hHeld ?rest9
        case hi9 => rw [List.getElem?_toArray]; rfl
        case hq9 => exact fun _ _ _ h => h
        case hs9 | hf9 | hr9 => kernel_rfl
        case hw9 => rfl
        case hy9 => (intro w1 hSw; (try dsimp only at hSw); go_simp; try with_reducible rfl)
        (try simp only [Act.put, List.setIfInBounds_toArray, List.set_cons_zero, List.set_cons_succ])
        refine wpAnyH_take (i := 9) (oi := ?oi10) (v := ?v10) (fuel := 3) ?hi10 ?hs10 ?hf10 ?hr10 ?hq10 (Or.inl ⟨?hw10, ?hy10⟩) hHeld ?rest10
        case hi10 => rw [List.getElem?_toArray]; rfl
        case hq10 => exact fun _ _ _ h => h
        case hs10 | hf10 | hr10 => kernel_rfl
        case hw10 => rfl
        case hy10 => (intro w1 hSw; (try dsimp only at hSw); go_simp; try with_reducible rfl)
        (try simp only [Act.put, List.setIfInBounds_toArray, List.set_cons_zero, List.set_cons_succ])
        refine wpAnyH_take (i := 10) (oi := ?oi11) (v := ?v11) (fuel := 2) ?hi11 ?hs11 ?hf11 ?hr11 ?hq11 (Or.inl ⟨?hw11, ?hy11⟩) hHeld ?rest11
        case hi11 => rw [List.getElem?_toArray]; rfl
        case hq11 => exact fun _ _ _ h => h
        case hs11 | hf11 | hr11 => kernel_rfl
        case hw11 => rfl
        case hy11 => (intro w1 hSw; (try dsimp only at hSw); go_simp; try with_reducible rfl)
        (try simp only [Act.put, List.setIfInBounds_toArray, List.set_cons_zero, List.set_cons_succ])
        refine wpAnyH_ready (fuel := 1) (rs := [11]) (by kernel_rfl) (by simp) ?_
        refine AllReadyH.cons (o := ?oi12) ?hi12 (fun K hK => ?st12) AllReadyH.nil
        case hi12 => rw [List.getElem?_toArray]; rfl
        go_simp
        refine (f13 _ _ _ _ _ _ _).mono ?_
        rw [HI.out]
        rintro ee wr11 ⟨rfl, b9⟩
        replace hbw := hbw.trans (b9.mono hbw.size)
        obtain ⟨h0, h1, h2, h3, h4, h5⟩ := (HRW.out k hlt).below hbw hb
        rw [← HX.out] at h0 h1 h2 h3 h4 h5
        have z1 : b < wr11.heap.size := by have := hbw.size; omega
        clear b9
        go_wp2_with fail
        refine hK.out _ _ ?hS12 (fun hHeld => ?re12)
        case hS12 => exact ⟨h0, h1, h2, h3, h4, h5, z1⟩
        clear hK K
        (try simp only [Act.put, List.setIfInBounds_toArray, List.set_cons_zero, List.set_cons_succ])
        refine wpAnyH_take (i := 12) (oi := ?oi13) (v := .bool false) (fuel := 0) ?hi13 ?hs13 ?hf13 ?hr13 ?hq13 (Or.inl ⟨?hw13, ?hy13⟩) hHeld ?rest13
        case hi13 => rw [List.getElem?_toArray]; rfl
        case hq13 => exact fun _ _ _ h => h
        case hs13 | hf13 | hr13 => kernel_rfl
        case hw13 => rfl
        case hy13 => (intro w1 hSw; (try dsimp only at hSw); go_simp; try simp [go_sem])
        (try simp only [Act.put, List.setIfInBounds_toArray, List.set_cons_zero, List.set_cons_succ])
        refine wpAnyH_done (by kernel_rfl) ?_ _
        clear hHeld h0 h1 h2 h3 h4 h5 z1
        go_wp2_with fail
        go_roundw
        case rel => exact ⟨k + 1, by omega, by go_num, hbw⟩
        case measure => simp [intOf]; omega
      · obtain rfl : k = xs.length := by omega
        have HB2 := hid (HB.out.trans (hbw.mono HB.out.size))
        have HA1 : Hid (ArgRow wr (some ⟨g, 0, none⟩) xs) := .inr ⟨g, 0, rfl, by have := hbw.size; omega, HG.out.below hbw hg2⟩
        have HA2 : Hid (ArgRow wr (some ⟨b, p, none⟩) xs) := .inr ⟨b, p, rfl, by have := hbw.size; omega, HRW.out.below hbw hb⟩
        have hw9 : IntKind.i64.wrap (8 * (xs.length : Int)) = 8 * (xs.length : Int) := by rw [IntKind.wrap_i64]; omega
        go_wp2_with fail
        refine (sg_w xs _ _ _ _ _ HA1.out HA2.out (by omega)).mono ?_
        rintro e w5 ⟨rfl, b1⟩
        replace HB2 := hid (HB2.out.to b1)
        clear b1
        go_wp2_with fail
        go_ret
        exact ⟨by simp_all, HB2.out⟩
  · have hps : Hid (progS xs = ⟨#[]⟩) := by show _ = _; rw [progS, if_neg hf]
    have hf' : (formN xs == 0) = false := by simp [hf]
    clear hf
    go_wp2_with fail
    refine (pput_i xs x c _ HA.out (by omega)).mono ?_
    rw [hps.out]
    rintro e w1 ⟨rfl, b1⟩
    replace HA := hid (HA.out.below b1 (Nat.le_refl _))
    replace HB := hid (HB.out.to b1)
    clear b1
    go_wp2_with fail
    refine (pput_s xs x c _ HA.out (by omega)).mono ?_
    rw [hps.out]
    rintro e w2 ⟨rfl, b1⟩
    replace HA := hid (HA.out.below b1 (Nat.le_refl _))
    replace HB := hid (HB.out.to b1)
    clear b1
    go_wp2_with fail
    refine (form_i xs x c _ HA.out (by omega)).mono ?_
    rintro e w3 ⟨rfl, b1⟩
    replace HA := hid (HA.out.below b1 (Nat.le_refl _))
    replace HB := hid (HB.out.to b1)
    clear b1
    generalize formN xs = fx at *
    go_wp2_with fail
    all_goals go_ret
    all_goals exact ⟨by simp_all, HB.out⟩
end Go.Proofs.Ythholhabgdpndaa
