/- StartOk of the specification; the law FnExactStartOk. -/
import Derived.Test.YtghcknbpipaghaaSD
namespace Go.Proofs.Ytghcknbpipaghaa
open Go.RowKit
set_option linter.unusedSimpArgs false
set_option linter.unusedVariables false

set_option maxRecDepth 100000 in
set_option maxHeartbeats 4000000 in
theorem okSpec0 (xs : List Q.I6) (came : ByteArray) (ts : List TT) (rs ss : List Int) (g1 g2 g3 g4 : Nat) (w : World) (hA : StO w g1 g2 g3 g4 xs ts rs ss) (hN : StN xs came ts rs ss) :
    Calls Try.prog 12 #[.agg #[.slice (some ⟨g1, 0, none⟩) xs.length xs.length, .string came, .slice (some ⟨g2, 0, none⟩) ts.length ts.length, .slice (some ⟨g3, 0, none⟩) rs.length rs.length, .slice (some ⟨g4, 0, none⟩) ss.length ss.length]] w fun e w' => Ans e (StartP xs came ts rs ss) ∧ Below w.heap.size w w' := by
  have HA : Hid (StO w g1 g2 g3 g4 xs ts rs ss) := hA
  have HN : Hid (StN xs came ts rs ss) := hN
  have hn1 := hN.t
  have hn2 := hN.r
  have hn3 := hN.s
  clear hA hN
  have HC0 : Hid (∀ X, Below w.heap.size w (w.alloc X)) := hidI (fun X => (Below.refl _ _).alloc (Nat.le_refl _) _)
  have HX0 := hidI (BoxS.new w (.slice (some ⟨g1, 0, none⟩) xs.length xs.length) (.string came) (.slice (some ⟨g2, 0, none⟩) ts.length ts.length) (.slice (some ⟨g3, 0, none⟩) rs.length rs.length) (.slice (some ⟨g4, 0, none⟩) ss.length ss.length) 32)
  go_enter Try.func12, Try.ntmps12
  go_wp2_with fail
  go_loopw [3] (fun i wr => ∃ k : Nat, k ≤ ts.length ∧ i = .int .i64 k ∧ Hid (Below w.heap.size w wr) ∧ Hid (BoxS wr w.heap.size (.slice (some ⟨g1, 0, none⟩) xs.length xs.length) (.string came) (.slice (some ⟨g2, 0, none⟩) ts.length ts.length) (.slice (some ⟨g3, 0, none⟩) rs.length rs.length) (.slice (some ⟨g4, 0, none⟩) ss.length ss.length)) ∧ Hid (∀ j (h : j < ts.length), j < k → OkP ts[j].k ts[j].s ts[j].r ts[j].ks ts[j].vs)) (fun i _ => ts.length - (intOf i).toNat)
  case atStart => exact ⟨0, Nat.zero_le _, rfl, HC0.out _, HX0, hidI (fun _ _ h => absurd h (by omega))⟩
  case round =>
    clear HX0 HC0
    obtain ⟨k, hk, rfl, HC, HX, HD⟩ := hrel
    obtain ⟨x0, x1, x2, x3, x4, xl, xf⟩ := HX.out
    by_cases hlt : k < ts.length
    · have hlt' : (k : Int) < (ts.length : Int) := by omega
      have ht := (HA.out.below HC.out).t.row k hlt
      rw [Nat.zero_add] at ht
      have hbg : ts[k].small := HN.out.tt _ (List.getElem_mem _)
      have HS : Hid (OkP ts[k].k ts[k].s ts[k].r ts[k].ks ts[k].vs → ∀ j (hj : j < ts.length), j < k + 1 → OkP ts[j].k ts[j].s ts[j].r ts[j].ks ts[j].vs) := hidI (fun h0 j hj hjk => by
        by_cases e : j = k
        · subst e; exact h0
        · exact HD.out j hj (by omega))
      have HN2 : Hid (¬ OkP ts[k].k ts[k].s ts[k].r ts[k].ks ts[k].vs → ¬ StartP xs came ts rs ss) := hidI (fun h0 h1 => h0 (h1.1 k hlt))
      clear HD
      obtain ⟨t, ht0⟩ : ∃ t, t = ts[k] := ⟨_, rfl⟩
      rw [← ht0] at ht hbg HS HN2
      clear ht0
      obtain ⟨ta, ta', tc, tc', t0, t1, t2, t3, t4, hI, hS, htc⟩ := ht
      have HI := hidI hI
      have HV := hidI hS
      clear hI hS
      obtain ⟨s0, s1⟩ := hbg
      go_wp2_with fail
      refine (f28 t.k t.s t.r t.ks t.vs _ _ _ _ _ HI.out HV.out).mono ?_
      rintro e w2 ⟨⟨q, rfl, hq⟩, hb2⟩
      have HC2 := hidI (HC.out.trans (hb2.mono HC.out.size))
      have HX2 := hidI (HX.out.below hb2 xl)
      clear hb2 x0 x1 x2 x3 x4 xl xf
      have HQ := hidI hq
      clear hq
      cases q
      · go_wp2_with fail
        go_ret
        exact ⟨Ans.no (HN2.out (fun h => by have := HQ.out.2 h; cases this)), HC2.out⟩
      · go_wp2_with fail
        go_roundw
        case rel => exact ⟨k + 1, by omega, by go_num, HC2, HX2, hidI (HS.out (by have := HQ.out; simpa using this))⟩
        case measure => simp [intOf]; omega
    · obtain rfl : k = ts.length := by omega
      have HT : Hid (oksP ts) := hidI (fun j h => HD.out j h h)
      clear HD
      go_wp2_with fail
      clear x0 x1 x2 x3 x4 xl xf
      go_loopw [4] (fun i wr => ∃ k : Nat, k ≤ rs.length ∧ i = .int .i64 k ∧ Hid (Below w.heap.size w wr) ∧ Hid (BoxS wr w.heap.size (.slice (some ⟨g1, 0, none⟩) xs.length xs.length) (.string came) (.slice (some ⟨g2, 0, none⟩) ts.length ts.length) (.slice (some ⟨g3, 0, none⟩) rs.length rs.length) (.slice (some ⟨g4, 0, none⟩) ss.length ss.length)) ∧ Hid (∀ j (h : j < rs.length), j < k → inB rs[j] 0 4294967295 = true)) (fun i _ => rs.length - (intOf i).toNat)
      case atStart => exact ⟨0, Nat.zero_le _, rfl, HC, HX, hidI (fun _ _ h => absurd h (by omega))⟩
      case round =>
        skip
        obtain ⟨k, hk, rfl, HC, HX, HD⟩ := hrel
        obtain ⟨x0, x1, x2, x3, x4, xl, xf⟩ := HX.out
        by_cases hlt : k < rs.length
        · have hlt' : (k : Int) < (rs.length : Int) := by omega
          have hc := (HA.out.below HC.out).r k hlt
          rw [Nat.zero_add] at hc
          have HN2 : Hid (¬ inB rs[k] 0 4294967295 = true → ¬ StartP xs came ts rs ss) := hidI (fun h0 h1 => h0 (h1.2.1 k hlt))
          have HS : Hid (inB rs[k] 0 4294967295 = true → ∀ j (hj : j < rs.length), j < k + 1 → inB rs[j] 0 4294967295 = true) := hidI (fun h0 j hj hjk => by
            by_cases e : j = k
            · subst e; exact h0
            · exact HD.out j hj (by omega))
          clear HD
          obtain ⟨x, hx⟩ : ∃ x, x = rs[k] := ⟨_, rfl⟩
          rw [← hx] at hc HN2 HS
          clear hx
          cases hv : inB x 0 4294967295
          · have HNO : Hid (¬ StartP xs came ts rs ss) := hidI (HN2.out (by rw [hv]; decide))
            clear HN2 HS
            go_wp2_with fail
            go_quiet ((first | (go_at_call 25; exact Calls.quiet_of_same (f48 _)) | (go_at_call 24; exact Calls.quiet_of_same (f36 _ _ _ _))))
            go_wp2_with fail
            go_ret
            exact ⟨Ans.no HNO.out, below_drewN HC.out _⟩
          · have HGO := hidI (HS.out hv)
            clear HN2 HS
            go_wp2_with fail
            go_quiet ((first | (go_at_call 25; exact Calls.quiet_of_same (f48 _)) | (go_at_call 24; exact Calls.quiet_of_same (f36 _ _ _ _))))
            go_wp2_with fail
            go_roundw
            case rel => exact ⟨k + 1, by omega, by go_num, below_drewN HC.out _, HX.out.below (n := wr.heap.size) (below_drewN (Below.refl _ _) _) xl, HGO⟩
            case measure => simp [intOf]; omega
        · obtain rfl : k = rs.length := by omega
          have HALL : Hid (numsP rs) := hidI (fun j h => HD.out j h h)
          clear HD
          go_wp2_with fail
          have HR : Hid (numsP rs) := HALL
          clear HALL x0 x1 x2 x3 x4 xl xf
          go_loopw [5] (fun i wr => ∃ k : Nat, k ≤ ss.length ∧ i = .int .i64 k ∧ Hid (Below w.heap.size w wr) ∧ Hid (BoxS wr w.heap.size (.slice (some ⟨g1, 0, none⟩) xs.length xs.length) (.string came) (.slice (some ⟨g2, 0, none⟩) ts.length ts.length) (.slice (some ⟨g3, 0, none⟩) rs.length rs.length) (.slice (some ⟨g4, 0, none⟩) ss.length ss.length)) ∧ Hid (∀ j (h : j < ss.length), j < k → inB ss[j] 0 4294967295 = true)) (fun i _ => ss.length - (intOf i).toNat)
          case atStart => exact ⟨0, Nat.zero_le _, rfl, HC, HX, hidI (fun _ _ h => absurd h (by omega))⟩
          case round =>
            skip
            obtain ⟨k, hk, rfl, HC, HX, HD⟩ := hrel
            obtain ⟨x0, x1, x2, x3, x4, xl, xf⟩ := HX.out
            by_cases hlt : k < ss.length
            · have hlt' : (k : Int) < (ss.length : Int) := by omega
              have hc := (HA.out.below HC.out).s k hlt
              rw [Nat.zero_add] at hc
              have HN2 : Hid (¬ inB ss[k] 0 4294967295 = true → ¬ StartP xs came ts rs ss) := hidI (fun h0 h1 => h0 (h1.2.2.1 k hlt))
              have HS : Hid (inB ss[k] 0 4294967295 = true → ∀ j (hj : j < ss.length), j < k + 1 → inB ss[j] 0 4294967295 = true) := hidI (fun h0 j hj hjk => by
                by_cases e : j = k
                · subst e; exact h0
                · exact HD.out j hj (by omega))
              clear HD
              obtain ⟨x, hx⟩ : ∃ x, x = ss[k] := ⟨_, rfl⟩
              rw [← hx] at hc HN2 HS
              clear hx
              cases hv : inB x 0 4294967295
              · have HNO : Hid (¬ StartP xs came ts rs ss) := hidI (HN2.out (by rw [hv]; decide))
                clear HN2 HS
                go_wp2_with fail
                go_quiet ((first | (go_at_call 25; exact Calls.quiet_of_same (f48 _)) | (go_at_call 24; exact Calls.quiet_of_same (f36 _ _ _ _))))
                go_wp2_with fail
                go_ret
                exact ⟨Ans.no HNO.out, below_drewN HC.out _⟩
              · have HGO := hidI (HS.out hv)
                clear HN2 HS
                go_wp2_with fail
                go_quiet ((first | (go_at_call 25; exact Calls.quiet_of_same (f48 _)) | (go_at_call 24; exact Calls.quiet_of_same (f36 _ _ _ _))))
                go_wp2_with fail
                go_roundw
                case rel => exact ⟨k + 1, by omega, by go_num, below_drewN HC.out _, HX.out.below (n := wr.heap.size) (below_drewN (Below.refl _ _) _) xl, HGO⟩
                case measure => simp [intOf]; omega
            · obtain rfl : k = ss.length := by omega
              have HALL : Hid (numsP ss) := hidI (fun j h => HD.out j h h)
              clear HD
              go_wp2_with fail
              refine (Q.f36 xs _ _ _ _ (HA.out.below HC.out).x HN.out.x (HA.out.below HC.out).l1).mono ?_
              rintro e w5 ⟨rfl, hb5⟩
              obtain ⟨f, hf⟩ : ∃ f, f = Q.formN xs := ⟨_, rfl⟩
              rw [← hf]
              have HF := hidI hf
              clear hf x0 x1 x2 x3 x4 xl xf
              have X5 := HX.out.below hb5 HX.out.lt
              have HC5 := hidI (HC.out.trans (hb5.mono HC.out.size))
              clear hb5
              obtain ⟨x0, x1, x2, x3, x4, xl, xf⟩ := X5
              have HEND : Hid (∀ q : Bool, q = lastB f came.size ts.length rs.length ss.length → Ans (.returned (.bool q)) (StartP xs came ts rs ss)) := hidI (fun q hq => ⟨q, rfl, fun h => ⟨HT.out, HR.out, HALL.out, by rw [← HF.out, ← hq]; exact h⟩, fun h => by rw [hq, HF.out]; exact h.2.2.2⟩)
              go_wp2_with (go_at_call 24; refine (f36 _ _ _ _).mono ?_; rintro e w' ⟨rfl, rfl⟩)
              all_goals (go_ret; refine ⟨HEND.out _ ?_, HC5.out⟩; clear HEND HC5 HX HC HA HN HT HR HALL HF; simp_all [lastB] <;> omega)

set_option maxRecDepth 100000 in
set_option maxHeartbeats 4000000 in
theorem okSpec (xs : List Q.I6) (came : ByteArray) (ts : List TT) (rs ss : List Int) (g1 g2 g3 g4 : Nat) (w : World) (hA : StO w g1 g2 g3 g4 xs ts rs ss) (hN : StN xs came ts rs ss) :
    Calls Try.prog 5 #[.agg #[.slice (some ⟨g1, 0, none⟩) xs.length xs.length, .string came, .slice (some ⟨g2, 0, none⟩) ts.length ts.length, .slice (some ⟨g3, 0, none⟩) rs.length rs.length, .slice (some ⟨g4, 0, none⟩) ss.length ss.length]] w fun e w' => Ans e (StartP xs came ts rs ss) ∧ Below w.heap.size w w' := by
  have HA : Hid (StO w g1 g2 g3 g4 xs ts rs ss) := hA
  have HC0 : Hid (∀ X, Below w.heap.size w (w.alloc X)) := hidI (fun X => (Below.refl _ _).alloc (Nat.le_refl _) _)
  clear hA
  go_enter Try.func5, Try.ntmps5
  go_wp2_with fail
  refine (okSpec0 xs came ts rs ss _ _ _ _ _ (HA.out.below (HC0.out _)) hN).mono ?_
  rintro e w1 ⟨⟨q, rfl, hq⟩, hb1⟩
  have HC1 := hidI ((HC0.out _).trans (hb1.mono (by simp)))
  have HQ := hidI hq
  clear hq hb1
  go_wp2_with fail
  go_ret
  exact ⟨⟨q, rfl, HQ.out⟩, HC1.out⟩

end Go.Proofs.Ytghcknbpipaghaa
