/- Rows of tables held against each other; all numbers, all tables ok. -/
import Derived.Test.YtghcknbpipaghaaSA
import Derived.Deep.RegionHeld3
namespace Go.Proofs.Ytghcknbpipaghaa
open Go.RowKit
set_option linter.unusedSimpArgs false
set_option linter.unusedVariables false

set_option maxRecDepth 100000 in
set_option maxHeartbeats 4000000 in
theorem eqTS (ts : List TT) (a1 a2 : Option Addr) (c1 c2 : Nat) (w : World) (hA1 : ArgT w a1 ts) (hA2 : ArgT w a2 ts) (hn : ts.length ≤ 1048576) (hsm : ∀ t ∈ ts, t.small) :
    Calls Try.prog 20 #[.slice a1 ts.length c1, .slice a2 ts.length c2] w fun e w' => e = .returned (.bool true) ∧ Below w.heap.size w w' := by
  have H1 : Hid (ArgT w a1 ts) := hA1
  have H2 : Hid (ArgT w a2 ts) := hA2
  have HB : Hid (∀ t ∈ ts, t.small) := hsm
  clear hA1 hA2 hsm
  go_enter Try.func20, Try.ntmps20
  go_wp2_with fail
  go_loopw [5] (fun i wr => ∃ k : Nat, k ≤ ts.length ∧ i = .int .i64 k ∧ Below w.heap.size w wr) (fun i _ => ts.length - (intOf i).toNat)
  case atStart => exact ⟨0, Nat.zero_le _, rfl, Below.refl _ _⟩
  case round =>
    obtain ⟨k, hk, rfl, hbw⟩ := hrel
    by_cases hlt : k < ts.length
    · have hlt' : (k : Int) < (ts.length : Int) := by omega
      have hk0 : (0 : Int) ≤ (k : Int) := by omega
      obtain ⟨b, p, rfl, hb, ht⟩ := (H1.out.below hbw (Nat.le_refl _)).at k hlt
      obtain ⟨b', p', rfl, hb', ht'⟩ := (H2.out.below hbw (Nat.le_refl _)).at k hlt
      have hbg : ts[k].small := HB.out _ (List.getElem_mem _)
      obtain ⟨t, ht0⟩ : ∃ t, t = ts[k] := ⟨_, rfl⟩
      rw [← ht0] at ht ht' hbg
      clear ht0
      obtain ⟨ta, ta', tc, tc', t0, t1, t2, t3, t4, hI, hS, htc⟩ := ht
      obtain ⟨ua, ua', uc, uc', u0, u1, u2, u3, u4, hJ, hU, huc⟩ := ht'
      have HI : Hid (ArgI wr ta t.ks) := hI
      have HS : Hid (ArgS wr ta' t.vs) := hS
      have HJ : Hid (ArgI wr ua t.ks) := hJ
      have HU : Hid (ArgS wr ua' t.vs) := hU
      clear hI hS hJ hU
      obtain ⟨g0, g1⟩ := hbg
      go_wp2_with fail
      refine wp_region_held_drew (S := (fun w' => w'.cell? ⟨b, p + k * 5, none⟩ = some (.int .i64 t.k) ∧ w'.cell? ⟨b, p + k * 5 + 1, none⟩ = some (.int .i64 t.s) ∧ w'.cell? ⟨b, p + k * 5 + 2, none⟩ = some (.int .i64 t.r) ∧ w'.cell? ⟨b, p + k * 5 + 3, none⟩ = some (.slice ta t.ks.length tc) ∧ w'.cell? ⟨b, p + k * 5 + 4, none⟩ = some (.slice ta' t.vs.length tc') ∧ w'.cell? ⟨b', p' + k * 5, none⟩ = some (.int .i64 t.k) ∧ w'.cell? ⟨b', p' + k * 5 + 1, none⟩ = some (.int .i64 t.s) ∧ w'.cell? ⟨b', p' + k * 5 + 2, none⟩ = some (.int .i64 t.r) ∧ w'.cell? ⟨b', p' + k * 5 + 3, none⟩ = some (.slice ua t.ks.length uc) ∧ w'.cell? ⟨b', p' + k * 5 + 4, none⟩ = some (.slice ua' t.vs.length uc'))) (by kernel_rfl) (by simp [*]) (fun hHeld => ?_)
      refine wpAnyH_take (i := 0) (oi := ?oi1) (v := ?v1) (fuel := 9) ?hi1 ?hs1 ?hf1 ?hr1 ?hq1 (Or.inl ⟨?hw1, ?hy1⟩) hHeld ?rest1
      case hi1 => rw [List.getElem?_toArray]; rfl
      case hq1 => exact fun _ _ _ h => h
      case hs1 => kernel_rfl
      case hf1 => kernel_rfl
      case hr1 => kernel_rfl
      case hw1 => rfl
      case hy1 => (intro w1 hSw; (try dsimp only at hSw); go_simp; try with_reducible rfl)
      (try simp only [Act.put, List.setIfInBounds_toArray, List.set_cons_zero, List.set_cons_succ])
      refine wpAnyH_take (i := 1) (oi := ?oi2) (v := ?v2) (fuel := 8) ?hi2 ?hs2 ?hf2 ?hr2 ?hq2 (Or.inl ⟨?hw2, ?hy2⟩) hHeld ?rest2
      case hi2 => rw [List.getElem?_toArray]; rfl
      case hq2 => exact fun _ _ _ h => h
      case hs2 => kernel_rfl
      case hf2 => kernel_rfl
      case hr2 => kernel_rfl
      case hw2 => rfl
      case hy2 => (intro w1 hSw; (try dsimp only at hSw); go_simp; try with_reducible rfl)
      (try simp only [Act.put, List.setIfInBounds_toArray, List.set_cons_zero, List.set_cons_succ])
      refine wpAnyH_take (i := 2) (oi := ?oi3) (v := ?v3) (fuel := 7) ?hi3 ?hs3 ?hf3 ?hr3 ?hq3 (Or.inl ⟨?hw3, ?hy3⟩) hHeld ?rest3
      case hi3 => rw [List.getElem?_toArray]; rfl
      case hq3 => exact fun _ _ _ h => h
      case hs3 => kernel_rfl
      case hf3 => kernel_rfl
      case hr3 => kernel_rfl
      case hw3 => rfl
      case hy3 => (intro w1 hSw; (try dsimp only at hSw); go_simp; try with_reducible rfl)
      (try simp only [Act.put, List.setIfInBounds_toArray, List.set_cons_zero, List.set_cons_succ])
      refine wpAnyH_take (i := 3) (oi := ?oi4) (v := ?v4) (fuel := 6) ?hi4 ?hs4 ?hf4 ?hr4 ?hq4 (Or.inl ⟨?hw4, ?hy4⟩) hHeld ?rest4
      case hi4 => rw [List.getElem?_toArray]; rfl
      case hq4 => exact fun _ _ _ h => h
      case hs4 => kernel_rfl
      case hf4 => kernel_rfl
      case hr4 => kernel_rfl
      case hw4 => rfl
      case hy4 => (intro w1 hSw; (try dsimp only at hSw); go_simp; try with_reducible rfl)
      (try simp only [Act.put, List.setIfInBounds_toArray, List.set_cons_zero, List.set_cons_succ])
      refine wpAnyH_take (i := 4) (oi := ?oi5) (v := ?v5) (fuel := 5) ?hi5 ?hs5 ?hf5 ?hr5 ?hq5 (Or.inl ⟨?hw5, ?hy5⟩) hHeld ?rest5
      case hi5 => rw [List.getElem?_toArray]; rfl
      case hq5 => exact fun _ _ _ h => h
      case hs5 => kernel_rfl
      case hf5 => kernel_rfl
      case hr5 => kernel_rfl
      case hw5 => rfl
      case hy5 => (intro w1 hSw; (try dsimp only at hSw); go_simp; try with_reducible rfl)
      (try simp only [Act.put, List.setIfInBounds_toArray, List.set_cons_zero, List.set_cons_succ])
      refine wpAnyH_take (i := 5) (oi := ?oi6) (v := ?v6) (fuel := 4) ?hi6 ?hs6 ?hf6 ?hr6 ?hq6 (Or.inl ⟨?hw6, ?hy6⟩) hHeld ?rest6
      case hi6 => rw [List.getElem?_toArray]; rfl
      case hq6 => exact fun _ _ _ h => h
      case hs6 => kernel_rfl
      case hf6 => kernel_rfl
      case hr6 => kernel_rfl
      case hw6 => rfl
      case hy6 => (intro w1 hSw; (try dsimp only at hSw); go_simp; try with_reducible rfl)
      (try simp only [Act.put, List.setIfInBounds_toArray, List.set_cons_zero, List.set_cons_succ])
      refine wpAnyH_take (i := 6) (oi := ?oi7) (v := ?v7) (fuel := 3) ?hi7 ?hs7 ?hf7 ?hr7 ?hq7 (Or.inl ⟨?hw7, ?hy7⟩) hHeld ?rest7
      case hi7 => rw [List.getElem?_toArray]; rfl
      case hq7 => exact fun _ _ _ h => h
      case hs7 => kernel_rfl
      case hf7 => kernel_rfl
      case hr7 => kernel_rfl
      case hw7 => rfl
      case hy7 => (intro w1 hSw; (try dsimp only at hSw); go_simp; try with_reducible rfl)
      (try simp only [Act.put, List.setIfInBounds_toArray, List.set_cons_zero, List.set_cons_succ])
      refine wpAnyH_take (i := 7) (oi := ?oi8) (v := ?v8) (fuel := 2) ?hi8 ?hs8 ?hf8 ?hr8 ?hq8 (Or.inl ⟨?hw8, ?hy8⟩) hHeld ?rest8
      case hi8 => rw [List.getElem?_toArray]; rfl
      case hq8 => exact fun _ _ _ h => h
      case hs8 => kernel_rfl
      case hf8 => kernel_rfl
      case hr8 => kernel_rfl
      case hw8 => rfl
      case hy8 => (intro w1 hSw; (try dsimp only at hSw); go_simp; try with_reducible rfl)
      (try simp only [Act.put, List.setIfInBounds_toArray, List.set_cons_zero, List.set_cons_succ])
      refine wpAnyH_ready (fuel := 1) (rs := [8]) (by kernel_rfl) (by simp) ?_
      refine AllReadyH.cons (o := ?oi9) ?hi9 (fun K hK => ?st9) AllReadyH.nil
      case hi9 => rw [List.getElem?_toArray]; rfl
      go_simp
      refine (f13g t.k t.s t.r t.ks t.vs _ _ _ _ _ _ _ _ _ (ArgI.below HI.out (Below.refl _ _).drew (Nat.le_refl _)) (ArgI.below HJ.out (Below.refl _ _).drew (Nat.le_refl _)) (ArgS.below HS.out (Below.refl _ _).drew (Nat.le_refl _)) (ArgS.below HU.out (Below.refl _ _).drew (Nat.le_refl _)) g0 g1).mono ?_
      rintro e w2 ⟨rfl, hb2⟩
      have hc2 : ∀ b o, b < wr.heap.size → w2.cell? ⟨b, o, none⟩ = wr.cell? ⟨b, o, none⟩ := fun b o h => hb2.cell (p := ⟨b, o, none⟩) h
      go_wp2_with fail
      refine hK.out _ _ ?hS9 (fun hHeld => ?re9)
      case hS9 => simp [*]
      clear hK K
      (try simp only [Act.put, List.setIfInBounds_toArray, List.set_cons_zero, List.set_cons_succ])
      refine wpAnyH_ready (fuel := 0) (rs := [9]) (by kernel_rfl) (by simp) ?_
      refine AllReadyH.cons (o := ?oi10) ?hi10 (fun K hK => ?st10) AllReadyH.nil
      case hi10 => rw [List.getElem?_toArray]; rfl
      go_simp
      refine hK.out _ _ ?hS10 (fun hHeld => ?re10)
      case hS10 => simp [*]
      clear hK K
      (try simp only [Act.put, List.setIfInBounds_toArray, List.set_cons_zero, List.set_cons_succ])
      refine wpAnyH_done (by kernel_rfl) ?_ _
      clear hHeld
      go_wp2_with fail
      go_roundw
      case rel => exact ⟨k + 1, by omega, by go_num, hbw.drew.trans (hb2.mono hbw.size)⟩
      case measure => simp [intOf]; omega
    · obtain rfl : k = ts.length := by omega
      go_wp2_with fail
      go_ret
      exact ⟨rfl, hbw⟩

theorem Ans.iff {e : Ending} {P Q : Prop} (h : Ans e P) (hpq : P ↔ Q) : Ans e Q := by
  obtain ⟨q, h1, h2⟩ := h
  exact ⟨q, h1, h2.trans hpq⟩
def numsP (xs : List Int) : Prop := ∀ j (h : j < xs.length), inB xs[j] 0 4294967295 = true
def oksP (ts : List TT) : Prop := ∀ j (h : j < ts.length), OkP ts[j].k ts[j].s ts[j].r ts[j].ks ts[j].vs

set_option maxRecDepth 100000 in
set_option maxHeartbeats 2000000 in
theorem numsOk (xs : List Int) (a : Option Addr) (cap : Nat) (w : World) (hA : ArgI w a xs) (hn : xs.length ≤ 1048576) :
    Calls Try.prog 18 #[.slice a xs.length cap] w fun e w' => Ans e (numsP xs) ∧ w' = w := by
  go_enter Try.func18, Try.ntmps18
  go_wp2_with fail
  go_loop [4, 7] (fun _ i => ∃ k : Nat, k ≤ xs.length ∧ i = .int .i64 k ∧ Hid (∀ j (h : j < xs.length), j < k → inB xs[j] 0 4294967295 = true)) (fun _ i => xs.length - (intOf i).toNat)
  case atStart => exact ⟨0, Nat.zero_le _, rfl, hidI (fun _ _ h => absurd h (by omega))⟩
  case round =>
    obtain ⟨k, hk, rfl, HD⟩ := hrel
    by_cases hlt : k < xs.length
    · have hlt' : (k : Int) < (xs.length : Int) := by omega
      obtain ⟨b, p, rfl, hb, hc⟩ := hA.at k hlt
      obtain ⟨x, hx⟩ : ∃ x, x = xs[k] := ⟨_, rfl⟩
      rw [← hx] at hc
      have HX : Hid _ := hx
      clear hx
      cases hv : inB x 0 4294967295
      · go_wp2_with (go_at_call 34; refine (f56 _ _).mono ?_; rintro e w' ⟨rfl, rfl⟩)
        go_ret
        refine ⟨Ans.no fun h => ?_, rfl⟩
        have := h k hlt
        rw [← HX.out, hv] at this
        cases this
      · go_wp2_with (go_at_call 34; refine (f56 _ _).mono ?_; rintro e w' ⟨rfl, rfl⟩)
        go_round
        case rel =>
          refine ⟨k + 1, by omega, by go_num, hidI fun j h hj => ?_⟩
          by_cases e : j = k
          · subst e; rw [← HX.out]; exact hv
          · exact HD.out j h (by omega)
        case measure => simp [intOf]; omega
    · obtain rfl : k = xs.length := by omega
      go_wp2_with fail
      go_ret
      exact ⟨Ans.yes fun j h => HD.out j h h, rfl⟩

set_option maxRecDepth 100000 in
set_option maxHeartbeats 4000000 in
theorem tabsOk (ts : List TT) (a : Option Addr) (cap : Nat) (w : World) (hA : ArgT w a ts) (hn : ts.length ≤ 1048576) (hsm : ∀ t ∈ ts, t.small) :
    Calls Try.prog 17 #[.slice a ts.length cap] w fun e w' => Ans e (oksP ts ∧ ts.length ≤ 3) ∧ Below w.heap.size w w' := by
  have HA : Hid (ArgT w a ts) := hA
  have HB : Hid (∀ t ∈ ts, t.small) := hsm
  clear hA hsm
  go_enter Try.func17, Try.ntmps17
  go_wp2_with fail
  go_loopw [4, 7] (fun _ i wr => ∃ k : Nat, k ≤ ts.length ∧ i = .int .i64 k ∧ Below w.heap.size w wr ∧ Hid (∀ j (h : j < ts.length), j < k → OkP ts[j].k ts[j].s ts[j].r ts[j].ks ts[j].vs)) (fun _ i _ => ts.length - (intOf i).toNat)
  case atStart => exact ⟨0, Nat.zero_le _, rfl, Below.refl _ _, hidI (fun _ _ h => absurd h (by omega))⟩
  case round =>
    obtain ⟨k, hk, rfl, hbw, HD⟩ := hrel
    by_cases hlt : k < ts.length
    · have hlt' : (k : Int) < (ts.length : Int) := by omega
      obtain ⟨b, p, rfl, hb, ht⟩ := (HA.out.below hbw (Nat.le_refl _)).at k hlt
      have hbg : ts[k].small := HB.out _ (List.getElem_mem _)
      have HS : Hid (OkP ts[k].k ts[k].s ts[k].r ts[k].ks ts[k].vs → ∀ j (hj : j < ts.length), j < k + 1 → OkP ts[j].k ts[j].s ts[j].r ts[j].ks ts[j].vs) := hidI (fun h0 j hj hjk => by
        by_cases e : j = k
        · subst e; exact h0
        · exact HD.out j hj (by omega))
      have HN : Hid (¬ OkP ts[k].k ts[k].s ts[k].r ts[k].ks ts[k].vs → ¬ (oksP ts ∧ ts.length ≤ 3)) := hidI (fun h0 h1 => h0 (h1.1 k hlt))
      clear HD
      obtain ⟨t, ht0⟩ : ∃ t, t = ts[k] := ⟨_, rfl⟩
      rw [← ht0] at ht hbg HS HN
      clear ht0
      obtain ⟨ta, ta', tc, tc', t0, t1, t2, t3, t4, hI, hS, htc⟩ := ht
      obtain ⟨g0, g1⟩ := hbg
      have cA : ∀ X, Below w.heap.size w (wr.alloc X) := fun X => hbw.alloc hbw.size _
      have cB : ∀ X, Below wr.heap.size wr (wr.alloc X) := fun X => (Below.refl _ _).alloc (Nat.le_refl _) _
      have HI : ∀ X, Hid (ArgI (wr.alloc X) ta t.ks) := fun X => hI.below (cB X) (Nat.le_refl _)
      have HV : ∀ X, Hid (ArgS (wr.alloc X) ta' t.vs) := fun X => hS.below (cB X) (Nat.le_refl _)
      have HII : Hid (∀ X, Hid (ArgI (wr.alloc X) ta t.ks)) := HI
      have HVV : Hid (∀ X, Hid (ArgS (wr.alloc X) ta' t.vs)) := HV
      have HCA : Hid (∀ X, Below w.heap.size w (wr.alloc X)) := cA
      clear hI hS HI HV cA cB
      go_wp2_with fail
      refine (f12 t.k t.s t.r t.ks t.vs _ _ _ _ _ ?ha ?hb htc g0 g1).mono ?_
      case ha => exact (HII.out _).out
      case hb => exact (HVV.out _).out
      rintro e w2 ⟨⟨q, rfl, hq⟩, hb2⟩
      have c2 : Below w.heap.size w w2 := (HCA.out _).trans (hb2.mono (by simp; have := hbw.size; omega))
      clear hb2
      have HQ : Hid (q = true ↔ OkP t.k t.s t.r t.ks t.vs) := hq
      clear hq
      cases q
      · go_wp2_with fail
        go_ret
        exact ⟨Ans.no (HN.out (fun h => by have := HQ.out.2 h; cases this)), c2⟩
      · go_wp2_with fail
        go_roundw
        case rel => exact ⟨k + 1, by omega, by go_num, c2, hidI (HS.out (by have := HQ.out; simpa using this))⟩
        case measure => simp [intOf]; omega
    · obtain rfl : k = ts.length := by omega
      by_cases h3 : ts.length ≤ 3
      · have h3' : (ts.length : Int) ≤ 3 := by omega
        go_wp2_with fail
        go_ret
        exact ⟨⟨true, rfl, fun _ => ⟨fun j h => HD.out j h h, h3⟩, fun _ => rfl⟩, hbw⟩
      · have h3' : ¬ (ts.length : Int) ≤ 3 := by omega
        have H3 : Hid (¬ (oksP ts ∧ ts.length ≤ 3)) := hidI (fun h => h3 h.2)
        clear h3
        go_wp2_with fail
        go_ret
        exact ⟨Ans.no H3.out, hbw⟩

end Go.Proofs.Ytghcknbpipaghaa
