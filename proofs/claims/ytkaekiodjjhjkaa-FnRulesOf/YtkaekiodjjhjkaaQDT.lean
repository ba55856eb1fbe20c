/- The draw of a table. -/
import Derived.Test.YtkaekiodjjhjkaaQKU
namespace Go.Proofs.Ytkaekiodjjhjkaa.G
open Go.RowKit
set_option linter.unusedVariables false
set_option linter.unusedSimpArgs false


theorem pred_int {j : Nat} (h : 0 < j) : Value.int .i64 ((j : Int) - 1) = .int .i64 ((j - 1 : Nat) : Int) := by rw [Int.natCast_sub h]; rfl

set_option maxRecDepth 100000 in
set_option maxHeartbeats 4000000 in
theorem table_k {w0 w : World} {B : Nat} {a : Option Addr} {len cap p : Nat} (h : RS w0 w B a len cap p) (hp : p ≤ 800000) :
    Calls Try.prog 55 #[.pointer (some ⟨B, 0, none⟩)] w fun e w' => ∃ (k : Int) (s : Nat) (r : Int) (ks : List Int) (vs : List ByteArray) (a1 b1 : Option Addr) (c1 d1 q : Nat), e = .returned (.agg #[.int .i64 k, .int .i64 s, .int .i64 r, .slice a1 ks.length c1, .slice b1 vs.length d1]) ∧ RW w' ks vs a1 b1 c1 d1 ∧ Bs w.heap.size a1 ∧ Bs w.heap.size b1 ∧ s ≤ 8 ∧ ks.length ≤ 20 ∧ vs.length ≤ 20 ∧ q ≤ p + 40 ∧ K3 w0 w w' B a len cap q := by
  have H := hid h
  have lB := h.lt
  clear h
  go_enter Try.func55, Try.ntmps55
  go_wp2_with fail
  have hQ : Hid (Box5 (w.alloc (.cells #[.int .i64 0, .int .i64 0, .int .i64 0, .slice none 0 0, .slice none 0 0] 89)) w.heap.size 0 0 0 (.slice none 0 0) (.slice none 0 0)) := World.alloc_heap_new w _
  have hD := hid ((K3.start H.out).alloc (.cells #[.int .i64 0, .int .i64 0, .int .i64 0, .slice none 0 0, .slice none 0 0] 89))
  have sQ : w.heap.size < (w.alloc (.cells #[.int .i64 0, .int .i64 0, .int .i64 0, .slice none 0 0, .slice none 0 0] 89)).heap.size := by simp
  clear H
  generalize w.alloc (.cells #[.int .i64 0, .int .i64 0, .int .i64 0, .slice none 0 0, .slice none 0 0] 89) = w1 at *
  refine (pick_k hD.out.rs (by omega) 2 (by omega) (by omega)).mono ?_
  rintro e w2 ⟨m, rfl, hm, k2⟩
  replace hQ := hid (hQ.out.k3 (by omega) k2)
  replace hD := hid (hD.out.draw k2)
  clear k2 sQ
  go_wp2_with fail
  refine (one_k hD.out.rs (by omega) [1, 2, 4, 8] 3 (by decide) (by decide)).mono ?_
  rintro e w3 ⟨s0, hs0, rfl, k3⟩
  replace hQ := hid (hQ.out.k3 (by omega) k3)
  replace hD := hid (hD.out.draw k3)
  clear k3 hs0
  go_wp2_with fail
  refine (one_k hD.out.rs (by omega) [1, 2, 4, 8] 3 (by decide) (by decide)).mono ?_
  rintro e w4 ⟨r0, hr0, rfl, k4⟩
  replace hQ := hid (hQ.out.k3 (by omega) k4)
  replace hD := hid (hD.out.draw k4)
  clear k4 hr0
  go_wp2_with fail
  refine (snew_b _ s0 r0 _).mono ?_
  rintro e w5 ⟨a1, b1, c1, d1, rfl, hr, ba0, bb0, b5⟩
  have ba1 := hid (ba0.mono hD.out.kp.1)
  have bb1 := hid (bb0.mono hD.out.kp.1)
  clear ba0 bb0
  obtain ⟨t, ht, ht8, hkl, hvl⟩ := newT_b (1 + m) s0 r0
  generalize newT (1 + m) s0 r0 = tt at *
  obtain ⟨kz, S, R, KS, VS, C⟩ := tt
  dsimp only at ht hkl hvl hr
  subst ht
  replace hQ := hid (hQ.out.bel b5)
  replace hD := hid (hD.out.below b5)
  have hR := hid hr
  clear b5 hr
  go_wp2_with fail
  have hM := hid (TB.new hR.out kz t R)
  have lQ := hQ.out.lt
  replace hQ := hid (hQ.out.alloc (.cells #[.int .i64 kz, .int .i64 t, .int .i64 R, .slice a1 KS.length c1, .slice b1 VS.length d1] 89))
  replace hD := hid (hD.out.alloc (.cells #[.int .i64 kz, .int .i64 t, .int .i64 R, .slice a1 KS.length c1, .slice b1 VS.length d1] 89))
  clear hR
  generalize w5.alloc (.cells #[.int .i64 kz, .int .i64 t, .int .i64 R, .slice a1 KS.length c1, .slice b1 VS.length d1] 89) = w6 at *
  generalize w5.heap.size = M at *
  refine (pick_k hD.out.rs (by omega) 6 (by omega) (by omega)).mono ?_
  rintro e w7 ⟨n, rfl, hn, k7⟩
  replace hM := hid (hM.out.kept (by omega) hD.out.rs k7)
  replace hQ := hid (hQ.out.k3 (by omega) k7)
  replace hD := hid (hD.out.draw k7)
  clear k7
  go_wp2_with fail
  go_loopw [4] (fun i wr => ∃ (j : Nat) (k : Int) (s : Nat) (r : Int) (ks : List Int) (vs : List ByteArray) (a1 b1 : Option Addr) (c1 d1 q : Nat), i = .int .i64 j ∧ j ≤ 5 ∧ TB wr M k s r ks vs a1 b1 c1 d1 ∧ Box5 wr w.heap.size 0 0 0 (.slice none 0 0) (.slice none 0 0) ∧ K3 w0 w wr B a len cap q ∧ Bs w.heap.size a1 ∧ Bs w.heap.size b1 ∧ s ≤ 8 ∧ ks.length + j ≤ 13 ∧ vs.length + j ≤ 13 ∧ q + 4 * j ≤ p + 40) (fun i _ => (intOf i).toNat)
  case atStart => exact ⟨n, kz, t, R, KS, VS, a1, b1, c1, d1, _, rfl, by omega, hM.out, hQ.out, hD.out, ba1.out, bb1.out, ht8, by omega, by omega, by omega⟩
  case round =>
    clear hM hQ hD hkl hvl ba1 bb1
    clear ht8
    obtain ⟨j, k, s, r, ks, vs, a1, b1, c1, d1, q, rfl, hj, hM0, hQ0, hK0, hba, hbb, hs, hkl, hvl, hq⟩ := hrel
    have ba1 := hid hba
    have bb1 := hid hbb
    clear hba hbb
    have HM := hid hM0
    have HQ := hid hQ0
    have HK := hid hK0
    clear hM0 hQ0 hK0
    by_cases hlt : 0 < j
    · have hlt' : (0 : Int) < (j : Int) := by omega
      have hjn : (j : Int) ≤ 5 := by omega
      go_wp2_with fail
      refine wp_region_held_drew (S := (fun w' => w'.cell? ⟨M, 0, none⟩ = some (.int .i64 k) ∧ w'.cell? ⟨M, 1, none⟩ = some (.int .i64 s) ∧ w'.cell? ⟨M, 2, none⟩ = some (.int .i64 r) ∧ w'.cell? ⟨M, 3, none⟩ = some (.slice a1 ks.length c1) ∧ w'.cell? ⟨M, 4, none⟩ = some (.slice b1 vs.length d1))) (by kernel_rfl) (by exact HM.out.cl) (fun hHeld => ?_)
      have hM := hid HM.out.drew
      have hQ := hid (HQ.out.bel (Below.refl _ _).drew)
      have hD := hid HK.out.drew
      clear HM HQ HK
      generalize wr.drew = W1 at *
      refine wpAnyH_take (i := 0) (oi := ?oi1) (v := ?v1) (fuel := 15) ?hi1 ?hs1 ?hf1 ?hr1 ?hq1 (Or.inl ⟨?hw1, ?hy1⟩) hHeld ?rest1
      case hi1 => rw [List.getElem?_toArray]; rfl
      case hq1 => exact fun _ _ _ h => h
      case hs1 | hf1 | hr1 => kernel_rfl
      case hw1 => rfl
      case hy1 => (intro w1 hSw; (try dsimp only at hSw); go_simp; try with_reducible rfl)
      (try simp only [Act.put, List.setIfInBounds_toArray, List.set_cons_zero, List.set_cons_succ])
      refine wpAnyH_take (i := 1) (oi := ?oi2) (v := ?v2) (fuel := 14) ?hi2 ?hs2 ?hf2 ?hr2 ?hq2 (Or.inl ⟨?hw2, ?hy2⟩) hHeld ?rest2
      case hi2 => rw [List.getElem?_toArray]; rfl
      case hq2 => exact fun _ _ _ h => h
      case hs2 | hf2 | hr2 => kernel_rfl
      case hw2 => rfl
      case hy2 => (intro w1 hSw; (try dsimp only at hSw); go_simp; try with_reducible rfl)
      (try simp only [Act.put, List.setIfInBounds_toArray, List.set_cons_zero, List.set_cons_succ])
      refine wpAnyH_take (i := 4) (oi := ?oi3) (v := ?v3) (fuel := 13) ?hi3 ?hs3 ?hf3 ?hr3 ?hq3 (Or.inl ⟨?hw3, ?hy3⟩) hHeld ?rest3
      case hi3 => rw [List.getElem?_toArray]; rfl
      case hq3 => exact fun _ _ _ h => h
      case hs3 | hf3 | hr3 => kernel_rfl
      case hw3 => rfl
      case hy3 => (intro w1 hSw; (try dsimp only at hSw); go_simp; try with_reducible rfl)
      (try simp only [Act.put, List.setIfInBounds_toArray, List.set_cons_zero, List.set_cons_succ])
      refine wpAnyH_take (i := 6) (oi := ?oi4) (v := ?v4) (fuel := 12) ?hi4 ?hs4 ?hf4 ?hr4 ?hq4 (Or.inl ⟨?hw4, ?hy4⟩) hHeld ?rest4
      case hi4 => rw [List.getElem?_toArray]; rfl
      case hq4 => exact fun _ _ _ h => h
      case hs4 | hf4 | hr4 => kernel_rfl
      case hw4 => rfl
      case hy4 => (intro w1 hSw; (try dsimp only at hSw); go_simp; try with_reducible rfl)
      (try simp only [Act.put, List.setIfInBounds_toArray, List.set_cons_zero, List.set_cons_succ])
      refine wpAnyH_take (i := 7) (oi := ?oi5) (v := ?v5) (fuel := 11) ?hi5 ?hs5 ?hf5 ?hr5 ?hq5 (Or.inl ⟨?hw5, ?hy5⟩) hHeld ?rest5
      case hi5 => rw [List.getElem?_toArray]; rfl
      case hq5 => exact fun _ _ _ h => h
      case hs5 | hf5 | hr5 => kernel_rfl
      case hw5 => rfl
      case hy5 => (intro w1 hSw; (try dsimp only at hSw); go_simp; try with_reducible rfl)
      (try simp only [Act.put, List.setIfInBounds_toArray, List.set_cons_zero, List.set_cons_succ])
      refine wpAnyH_ready (fuel := 10) (rs := [2, 13]) (by kernel_rfl) (by simp) ?_
      refine AllReadyH.cons (o := ?oi6) ?hi6 (fun K hK => ?st6) ?mo6
      case hi6 => rw [List.getElem?_toArray]; rfl
      case st6 =>
        go_simp
        have ba : Below W1.heap.size W1 (W1.alloc (.cells #[.int .i64 0, .int .i64 1, .int .i64 2, .int .i64 3, .int .i64 7, .int .i64 200, .int .i64 4294967295] 3)) := (Below.refl _ _).alloc (Nat.le_refl _) _
        have lLM := hM.out.lt
        have lLQ := hQ.out.lt
        have lLB := hD.out.rs.lt
        have hL := hid (LI.new W1 [0, 1, 2, 3, 7, 200, 4294967295] 3)
        replace hL : Hid (LI (W1.alloc (.cells #[.int .i64 0, .int .i64 1, .int .i64 2, .int .i64 3, .int .i64 7, .int .i64 200, .int .i64 4294967295] 3)) W1.heap.size [0, 1, 2, 3, 7, 200, 4294967295]) := hL
        replace hM := hid (hM.out.below ba)
        replace hQ := hid (hQ.out.bel ba)
        replace hD := hid (hD.out.below ba)
        clear ba
        generalize W1.alloc (.cells #[.int .i64 0, .int .i64 1, .int .i64 2, .int .i64 3, .int .i64 7, .int .i64 200, .int .i64 4294967295] 3) = wr2 at *
        generalize W1.heap.size = L at *
        refine hK.out _ _ ?hS6 (fun hHeld => ?re6)
        case hS6 => exact hM.out.cl
        clear hK K
        (try simp only [Act.put, List.setIfInBounds_toArray, List.set_cons_zero, List.set_cons_succ])
        refine wpAnyH_ready (fuel := 9) (rs := [3, 13]) (by kernel_rfl) (by simp) ?_
        refine AllReadyH.cons (o := ?oi7) ?hi7 (fun K hK => ?st7) ?mo7
        case hi7 => rw [List.getElem?_toArray]; rfl
        case st7 =>
          go_simp
          refine (one_l hD.out.rs (by omega) L [0, 1, 2, 3, 7, 200, 4294967295] (by omega) hL.out (by decide) (by decide)).mono ?_
          rintro ee wr3 ⟨key, hkey, rfl, k3⟩
          clear hkey hL
          replace hM := hid (hM.out.kept (by omega) hD.out.rs k3)
          replace hQ := hid (hQ.out.k3 (by omega) k3)
          replace hD := hid (hD.out.draw k3)
          clear k3
          go_wp2_with fail
          refine hK.out _ _ ?hS7 (fun hHeld => ?re7)
          case hS7 => exact hM.out.cl
          clear hK K
          (try simp only [Act.put, List.setIfInBounds_toArray, List.set_cons_zero, List.set_cons_succ])
          refine wpAnyH_ready (fuel := 8) (rs := [5, 13]) (by kernel_rfl) (by simp) ?_
          refine AllReadyH.cons (o := ?oi8) ?hi8 (fun K hK => ?st8) ?mo8
          case hi8 => rw [List.getElem?_toArray]; rfl
          case st8 =>
            go_simp
            refine (number_k hD.out.rs (by omega)).mono ?_
            rintro ee wr5 ⟨v, q2, rfl, hv, hq2, k5⟩
            replace hM := hid (hM.out.kept (by omega) hD.out.rs k5)
            replace hQ := hid (hQ.out.k3 (by omega) k5)
            replace hD := hid (hD.out.draw k5)
            clear k5
            go_wp2_with fail
            refine hK.out _ _ ?hS8 (fun hHeld => ?re8)
            case hS8 => exact hM.out.cl
            clear hK K
            (try simp only [Act.put, List.setIfInBounds_toArray, List.set_cons_zero, List.set_cons_succ])
            refine wpAnyH_ready (fuel := 7) (rs := [8, 13]) (by kernel_rfl) (by simp) ?_
            refine AllReadyH.cons (o := ?oi9) ?hi9 (fun K hK => ?st9) ?mo9
            case hi9 => rw [List.getElem?_toArray]; rfl
            case st9 =>
              go_simp
              refine (l4Bytes_c v s _ hs).mono ?_
              rintro ee wr8 ⟨val, rfl, hval, b8⟩
              replace hM := hid (hM.out.below b8)
              replace hQ := hid (hQ.out.bel b8)
              replace hD := hid (hD.out.below b8)
              clear b8
              go_wp2_with fail
              refine hK.out _ _ ?hS9 (fun hHeld => ?re9)
              case hS9 => exact hM.out.cl
              clear hK K
              (try simp only [Act.put, List.setIfInBounds_toArray, List.set_cons_zero, List.set_cons_succ])
              refine wpAnyH_ready (fuel := 6) (rs := [9, 13]) (by kernel_rfl) (by simp) ?_
              refine AllReadyH.cons (o := ?oi10) ?hi10 (fun K hK => ?st10) ?mo10
              case hi10 => rw [List.getElem?_toArray]; rfl
              case st10 =>
                go_simp
                refine (sput_b k s r ks vs a1 b1 c1 d1 key val (by omega) _ hM.out.rw (by omega) (by omega)).mono ?_
                rintro ee wr9 ⟨a2, b2, c2, d2, rfl, hr, ba0, bb0, b9⟩
                have ba2 := hid (ba0.mono hD.out.kp.1)
                have bb2 := hid (bb0.mono hD.out.kp.1)
                clear ba0 bb0
                have hR := hid hr
                clear hr
                obtain ⟨t, ht, ht8, hkl, hvl⟩ := putT_b k s r ks vs key val hs
                generalize putT k s r ks vs key val = tt at *
                obtain ⟨kz, S, R, KS, VS, C⟩ := tt
                dsimp only at ht hkl hvl hR
                subst ht
                replace hM := hid (hM.out.below b9)
                replace hQ := hid (hQ.out.bel b9)
                replace hD := hid (hD.out.below b9)
                clear b9
                go_wp2_with fail
                refine hK.out _ _ ?hS10 (fun hHeld => ?re10)
                case hS10 => exact hM.out.cl
                clear hK K
                (try simp only [Act.put, List.setIfInBounds_toArray, List.set_cons_zero, List.set_cons_succ])
                refine wpAnyH_take (i := 10) (oi := ?oi11) (v := ?v11) (fuel := 5) ?hi11 ?hs11 ?hf11 ?hr11 ?hq11 (Or.inl ⟨?hw11, ?hy11⟩) hHeld ?rest11
                case hi11 => rw [List.getElem?_toArray]; rfl
                case hq11 => exact fun _ _ _ h => h
                case hs11 | hf11 | hr11 => kernel_rfl
                case hw11 => rfl
                case hy11 => (intro w1 hSw; (try dsimp only at hSw); go_simp; try with_reducible rfl)
                (try simp only [Act.put, List.setIfInBounds_toArray, List.set_cons_zero, List.set_cons_succ])
                refine wpAnyH_take (i := 11) (oi := ?oi12) (v := ?v12) (fuel := 4) ?hi12 ?hs12 ?hf12 ?hr12 ?hq12 (Or.inl ⟨?hw12, ?hy12⟩) hHeld ?rest12
                case hi12 => rw [List.getElem?_toArray]; rfl
                case hq12 => exact fun _ _ _ h => h
                case hs12 | hf12 | hr12 => kernel_rfl
                case hw12 => rfl
                case hy12 => (intro w1 hSw; (try dsimp only at hSw); go_simp; try with_reducible rfl)
                (try simp only [Act.put, List.setIfInBounds_toArray, List.set_cons_zero, List.set_cons_succ])
                refine wpAnyH_take (i := 12) (oi := ?oi13) (v := ?v13) (fuel := 3) ?hi13 ?hs13 ?hf13 ?hr13 ?hq13 (Or.inl ⟨?hw13, ?hy13⟩) hHeld ?rest13
                case hi13 => rw [List.getElem?_toArray]; rfl
                case hq13 => exact fun _ _ _ h => h
                case hs13 | hf13 | hr13 => kernel_rfl
                case hw13 => rfl
                case hy13 => (intro w1 hSw; (try dsimp only at hSw); go_simp; try with_reducible rfl)
                (try simp only [Act.put, List.setIfInBounds_toArray, List.set_cons_zero, List.set_cons_succ])
                refine wpAnyH_ready (fuel := 2) (rs := [13]) (by kernel_rfl) (by simp) ?_
                refine AllReadyH.cons (o := ?oi14) ?hi14 (fun K hK => ?st14) AllReadyH.nil
                case hi14 => rw [List.getElem?_toArray]; rfl
                go_simp
                have ba : Below wr9.heap.size wr9 (wr9.alloc (.cells #[.int .i64 0, .int .i64 0, .int .i64 0, .slice none 0 0, .slice none 0 0] 89)) := (Below.refl _ _).alloc (Nat.le_refl _) _
                have lXM := hM.out.lt
                have lXQ := hQ.out.lt
                have lXB := hD.out.rs.lt
                have hX : Hid (Box5 (wr9.alloc (.cells #[.int .i64 0, .int .i64 0, .int .i64 0, .slice none 0 0, .slice none 0 0] 89)) wr9.heap.size 0 0 0 (.slice none 0 0) (.slice none 0 0)) := World.alloc_heap_new wr9 _
                replace hM := hid (hM.out.below ba)
                replace hQ := hid (hQ.out.bel ba)
                replace hR := hid (hR.out.below ba)
                replace hD := hid (hD.out.below ba)
                clear ba
                generalize wr9.alloc (.cells #[.int .i64 0, .int .i64 0, .int .i64 0, .slice none 0 0, .slice none 0 0] 89) = wr13 at *
                generalize wr9.heap.size = X at *
                refine hK.out _ _ ?hS14 (fun hHeld => ?re14)
                case hS14 => exact hM.out.cl
                clear hK K
                (try simp only [Act.put, List.setIfInBounds_toArray, List.set_cons_zero, List.set_cons_succ])
                refine wpAnyH_ready (fuel := 1) (rs := [14]) (by kernel_rfl) (by simp) ?_
                refine AllReadyH.cons (o := ?oi15) ?hi15 (fun K hK => ?st15) AllReadyH.nil
                case hi15 => rw [List.getElem?_toArray]; rfl
                obtain ⟨g0, g1, g2, g3, g4⟩ := Box5.cells hX.out
                have gf := Box5.frozen hX.out
                have gl := Box5.lt hX.out
                go_simp
                clear g0 g1 g2 g3 g4 gf gl
                refine hK.out _ _ ?hS15 (fun hHeld => ?re15)
                case hS15 => exact Box5.cells (Box5.st5o (Y := X) hM.out.box (by omega) kz t R (.slice a2 KS.length c2) (.slice b2 VS.length d2))
                clear hK K
                (try simp only [Act.put, List.setIfInBounds_toArray, List.set_cons_zero, List.set_cons_succ])
                refine wpAnyH_take (i := 15) (oi := ?oi16) (v := ?v16) (fuel := 0) ?hi16 ?hs16 ?hf16 ?hr16 ?hq16 (Or.inl ⟨?hw16, ?hy16⟩) hHeld ?rest16
                case hi16 => rw [List.getElem?_toArray]; rfl
                case hq16 => exact fun _ _ _ h => h
                case hs16 | hf16 | hr16 => kernel_rfl
                case hw16 => rfl
                case hy16 => (intro w1 hSw; (try dsimp only at hSw); go_simp; try with_reducible rfl)
                (try simp only [Act.put, List.setIfInBounds_toArray, List.set_cons_zero, List.set_cons_succ])
                refine wpAnyH_done (by kernel_rfl) ?_ _
                clear hHeld
                have hX1 := hid (Box5.st5 hX.out (k' := kz) (s' := t) (r' := R) (v' := .slice a2 KS.length c2) (u' := .slice b2 VS.length d2))
                have hR1 := hid (RW.st5 hX.out hR.out (k' := kz) (s' := t) (r' := R) (v' := .slice a2 KS.length c2) (u' := .slice b2 VS.length d2))
                have hM1 := hid (Box5.st5o (w := wr13) (Y := X) hM.out.box (by omega) kz t R (.slice a2 KS.length c2) (.slice b2 VS.length d2))
                have hQ1 := hid (Box5.st5o hQ.out (Y := X) (by omega) kz t R (.slice a2 KS.length c2) (.slice b2 VS.length d2))
                have hD1 := hid (hD.out.st5 X kz t R (.slice a2 KS.length c2) (.slice b2 VS.length d2) (by omega))
                clear hX hR hM hQ hD
                have hX := hX1.out
                have hR := hR1.out
                have hM := hM1.out
                have hQ := hQ1.out
                have hD := hD1.out
                clear hX1 hR1 hM1 hQ1 hD1
                unfold st5 at hX hR hM hQ hD
                generalize (((((wr13.setCell ⟨X, 0, none⟩ (.int .i64 kz)).setCell ⟨X, 1, none⟩ (.int .i64 t)).setCell ⟨X, 2, none⟩ (.int .i64 R)).setCell ⟨X, 3, none⟩ (.slice a2 KS.length c2)).setCell ⟨X, 4, none⟩ (.slice b2 VS.length d2)) = wz at *
                have HX := hid hX
                have HR := hid hR
                have HM := hid hM
                have HQ := hid hQ
                have HK := hid hD
                clear hX hR hM hQ hD
                obtain ⟨x0, x1, x2, x3, x4⟩ := Box5.cells HX.out
                obtain ⟨y0, y1, y2, y3, y4⟩ := Box5.cells HM.out
                have fM := Box5.frozen HM.out
                have lM := Box5.lt HM.out
                have lX := Box5.lt HX.out
                go_wp2_with fail
                have M2 := Box5.st5 HM.out (k' := kz) (s' := t) (r' := R) (v' := .slice a2 KS.length c2) (u' := .slice b2 VS.length d2)
                have R2 := RW.st5 HM.out HR.out (k' := kz) (s' := t) (r' := R) (v' := .slice a2 KS.length c2) (u' := .slice b2 VS.length d2)
                have Q2 := Box5.st5o HQ.out (Y := M) (by omega) kz t R (.slice a2 KS.length c2) (.slice b2 VS.length d2)
                have K2 := HK.out.st5 M kz t R (.slice a2 KS.length c2) (.slice b2 VS.length d2) (by omega)
                unfold st5 at M2 R2 Q2 K2
                refine ⟨?_, by simp [intOf]; omega⟩
                exact ⟨j - 1, kz, t, R, KS, VS, a2, b2, c2, d2, q2, by rw [pred_int (by omega)], by omega, ⟨M2, R2⟩, Q2, K2, ba2.out, bb2.out, ht8, by omega, by omega, by omega⟩
              refine AllReadyH.cons (o := ?oi17) ?hi17 (fun K hK => ?st17) ?mo17
              case hi17 => rw [List.getElem?_toArray]; rfl
              case st17 =>
                go_simp
                have ba : Below wr8.heap.size wr8 (wr8.alloc (.cells #[.int .i64 0, .int .i64 0, .int .i64 0, .slice none 0 0, .slice none 0 0] 89)) := (Below.refl _ _).alloc (Nat.le_refl _) _
                have lXM := hM.out.lt
                have lXQ := hQ.out.lt
                have lXB := hD.out.rs.lt
                have hX : Hid (Box5 (wr8.alloc (.cells #[.int .i64 0, .int .i64 0, .int .i64 0, .slice none 0 0, .slice none 0 0] 89)) wr8.heap.size 0 0 0 (.slice none 0 0) (.slice none 0 0)) := World.alloc_heap_new wr8 _
                replace hM := hid (hM.out.below ba)
                replace hQ := hid (hQ.out.bel ba)
                replace hD := hid (hD.out.below ba)
                clear ba
                generalize wr8.alloc (.cells #[.int .i64 0, .int .i64 0, .int .i64 0, .slice none 0 0, .slice none 0 0] 89) = wr13 at *
                generalize wr8.heap.size = X at *
                refine hK.out _ _ ?hS17 (fun hHeld => ?re17)
                case hS17 => exact hM.out.cl
                clear hK K
                (try simp only [Act.put, List.setIfInBounds_toArray, List.set_cons_zero, List.set_cons_succ])
                refine wpAnyH_ready (fuel := 5) (rs := [9]) (by kernel_rfl) (by simp) ?_
                refine AllReadyH.cons (o := ?oi18) ?hi18 (fun K hK => ?st18) AllReadyH.nil
                case hi18 => rw [List.getElem?_toArray]; rfl
                go_simp
                refine (sput_b k s r ks vs a1 b1 c1 d1 key val (by omega) _ hM.out.rw (by omega) (by omega)).mono ?_
                rintro ee wr9 ⟨a2, b2, c2, d2, rfl, hr, ba0, bb0, b9⟩
                have ba2 := hid (ba0.mono hD.out.kp.1)
                have bb2 := hid (bb0.mono hD.out.kp.1)
                clear ba0 bb0
                have hR := hid hr
                clear hr
                obtain ⟨t, ht, ht8, hkl, hvl⟩ := putT_b k s r ks vs key val hs
                generalize putT k s r ks vs key val = tt at *
                obtain ⟨kz, S, R, KS, VS, C⟩ := tt
                dsimp only at ht hkl hvl hR
                subst ht
                replace hM := hid (hM.out.below b9)
                replace hQ := hid (hQ.out.bel b9)
                replace hX := hid (hX.out.bel b9)
                replace hD := hid (hD.out.below b9)
                clear b9
                go_wp2_with fail
                refine hK.out _ _ ?hS18 (fun hHeld => ?re18)
                case hS18 => exact hM.out.cl
                clear hK K
                (try simp only [Act.put, List.setIfInBounds_toArray, List.set_cons_zero, List.set_cons_succ])
                refine wpAnyH_take (i := 10) (oi := ?oi19) (v := ?v19) (fuel := 4) ?hi19 ?hs19 ?hf19 ?hr19 ?hq19 (Or.inl ⟨?hw19, ?hy19⟩) hHeld ?rest19
                case hi19 => rw [List.getElem?_toArray]; rfl
                case hq19 => exact fun _ _ _ h => h
                case hs19 | hf19 | hr19 => kernel_rfl
                case hw19 => rfl
                case hy19 => (intro w1 hSw; (try dsimp only at hSw); go_simp; try with_reducible rfl)
                (try simp only [Act.put, List.setIfInBounds_toArray, List.set_cons_zero, List.set_cons_succ])
                refine wpAnyH_take (i := 11) (oi := ?oi20) (v := ?v20) (fuel := 3) ?hi20 ?hs20 ?hf20 ?hr20 ?hq20 (Or.inl ⟨?hw20, ?hy20⟩) hHeld ?rest20
                case hi20 => rw [List.getElem?_toArray]; rfl
                case hq20 => exact fun _ _ _ h => h
                case hs20 | hf20 | hr20 => kernel_rfl
                case hw20 => rfl
                case hy20 => (intro w1 hSw; (try dsimp only at hSw); go_simp; try with_reducible rfl)
                (try simp only [Act.put, List.setIfInBounds_toArray, List.set_cons_zero, List.set_cons_succ])
                refine wpAnyH_take (i := 12) (oi := ?oi21) (v := ?v21) (fuel := 2) ?hi21 ?hs21 ?hf21 ?hr21 ?hq21 (Or.inl ⟨?hw21, ?hy21⟩) hHeld ?rest21
                case hi21 => rw [List.getElem?_toArray]; rfl
                case hq21 => exact fun _ _ _ h => h
                case hs21 | hf21 | hr21 => kernel_rfl
                case hw21 => rfl
                case hy21 => (intro w1 hSw; (try dsimp only at hSw); go_simp; try with_reducible rfl)
                (try simp only [Act.put, List.setIfInBounds_toArray, List.set_cons_zero, List.set_cons_succ])
                refine wpAnyH_ready (fuel := 1) (rs := [14]) (by kernel_rfl) (by simp) ?_
                refine AllReadyH.cons (o := ?oi22) ?hi22 (fun K hK => ?st22) AllReadyH.nil
                case hi22 => rw [List.getElem?_toArray]; rfl
                obtain ⟨g0, g1, g2, g3, g4⟩ := Box5.cells hX.out
                have gf := Box5.frozen hX.out
                have gl := Box5.lt hX.out
                go_simp
                clear g0 g1 g2 g3 g4 gf gl
                refine hK.out _ _ ?hS22 (fun hHeld => ?re22)
                case hS22 => exact Box5.cells (Box5.st5o (Y := X) hM.out.box (by omega) kz t R (.slice a2 KS.length c2) (.slice b2 VS.length d2))
                clear hK K
                (try simp only [Act.put, List.setIfInBounds_toArray, List.set_cons_zero, List.set_cons_succ])
                refine wpAnyH_take (i := 15) (oi := ?oi23) (v := ?v23) (fuel := 0) ?hi23 ?hs23 ?hf23 ?hr23 ?hq23 (Or.inl ⟨?hw23, ?hy23⟩) hHeld ?rest23
                case hi23 => rw [List.getElem?_toArray]; rfl
                case hq23 => exact fun _ _ _ h => h
                case hs23 | hf23 | hr23 => kernel_rfl
                case hw23 => rfl
                case hy23 => (intro w1 hSw; (try dsimp only at hSw); go_simp; try with_reducible rfl)
                (try simp only [Act.put, List.setIfInBounds_toArray, List.set_cons_zero, List.set_cons_succ])
                refine wpAnyH_done (by kernel_rfl) ?_ _
                clear hHeld
                have hX1 := hid (Box5.st5 hX.out (k' := kz) (s' := t) (r' := R) (v' := .slice a2 KS.length c2) (u' := .slice b2 VS.length d2))
                have hR1 := hid (RW.st5 hX.out hR.out (k' := kz) (s' := t) (r' := R) (v' := .slice a2 KS.length c2) (u' := .slice b2 VS.length d2))
                have hM1 := hid (Box5.st5o (w := wr9) (Y := X) hM.out.box (by omega) kz t R (.slice a2 KS.length c2) (.slice b2 VS.length d2))
                have hQ1 := hid (Box5.st5o hQ.out (Y := X) (by omega) kz t R (.slice a2 KS.length c2) (.slice b2 VS.length d2))
                have hD1 := hid (hD.out.st5 X kz t R (.slice a2 KS.length c2) (.slice b2 VS.length d2) (by omega))
                clear hX hR hM hQ hD
                have hX := hX1.out
                have hR := hR1.out
                have hM := hM1.out
                have hQ := hQ1.out
                have hD := hD1.out
                clear hX1 hR1 hM1 hQ1 hD1
                unfold st5 at hX hR hM hQ hD
                generalize (((((wr9.setCell ⟨X, 0, none⟩ (.int .i64 kz)).setCell ⟨X, 1, none⟩ (.int .i64 t)).setCell ⟨X, 2, none⟩ (.int .i64 R)).setCell ⟨X, 3, none⟩ (.slice a2 KS.length c2)).setCell ⟨X, 4, none⟩ (.slice b2 VS.length d2)) = wz at *
                have HX := hid hX
                have HR := hid hR
                have HM := hid hM
                have HQ := hid hQ
                have HK := hid hD
                clear hX hR hM hQ hD
                obtain ⟨x0, x1, x2, x3, x4⟩ := Box5.cells HX.out
                obtain ⟨y0, y1, y2, y3, y4⟩ := Box5.cells HM.out
                have fM := Box5.frozen HM.out
                have lM := Box5.lt HM.out
                have lX := Box5.lt HX.out
                go_wp2_with fail
                have M2 := Box5.st5 HM.out (k' := kz) (s' := t) (r' := R) (v' := .slice a2 KS.length c2) (u' := .slice b2 VS.length d2)
                have R2 := RW.st5 HM.out HR.out (k' := kz) (s' := t) (r' := R) (v' := .slice a2 KS.length c2) (u' := .slice b2 VS.length d2)
                have Q2 := Box5.st5o HQ.out (Y := M) (by omega) kz t R (.slice a2 KS.length c2) (.slice b2 VS.length d2)
                have K2 := HK.out.st5 M kz t R (.slice a2 KS.length c2) (.slice b2 VS.length d2) (by omega)
                unfold st5 at M2 R2 Q2 K2
                refine ⟨?_, by simp [intOf]; omega⟩
                exact ⟨j - 1, kz, t, R, KS, VS, a2, b2, c2, d2, q2, by rw [pred_int (by omega)], by omega, ⟨M2, R2⟩, Q2, K2, ba2.out, bb2.out, ht8, by omega, by omega, by omega⟩
              exact AllReadyH.nil
            refine AllReadyH.cons (o := ?oi24) ?hi24 (fun K hK => ?st24) ?mo24
            case hi24 => rw [List.getElem?_toArray]; rfl
            case st24 =>
              go_simp
              have ba : Below wr5.heap.size wr5 (wr5.alloc (.cells #[.int .i64 0, .int .i64 0, .int .i64 0, .slice none 0 0, .slice none 0 0] 89)) := (Below.refl _ _).alloc (Nat.le_refl _) _
              have lXM := hM.out.lt
              have lXQ := hQ.out.lt
              have lXB := hD.out.rs.lt
              have hX : Hid (Box5 (wr5.alloc (.cells #[.int .i64 0, .int .i64 0, .int .i64 0, .slice none 0 0, .slice none 0 0] 89)) wr5.heap.size 0 0 0 (.slice none 0 0) (.slice none 0 0)) := World.alloc_heap_new wr5 _
              replace hM := hid (hM.out.below ba)
              replace hQ := hid (hQ.out.bel ba)
              replace hD := hid (hD.out.below ba)
              clear ba
              generalize wr5.alloc (.cells #[.int .i64 0, .int .i64 0, .int .i64 0, .slice none 0 0, .slice none 0 0] 89) = wr13 at *
              generalize wr5.heap.size = X at *
              refine hK.out _ _ ?hS24 (fun hHeld => ?re24)
              case hS24 => exact hM.out.cl
              clear hK K
              (try simp only [Act.put, List.setIfInBounds_toArray, List.set_cons_zero, List.set_cons_succ])
              refine wpAnyH_ready (fuel := 6) (rs := [8]) (by kernel_rfl) (by simp) ?_
              refine AllReadyH.cons (o := ?oi25) ?hi25 (fun K hK => ?st25) AllReadyH.nil
              case hi25 => rw [List.getElem?_toArray]; rfl
              go_simp
              refine (l4Bytes_c v s _ hs).mono ?_
              rintro ee wr8 ⟨val, rfl, hval, b8⟩
              replace hM := hid (hM.out.below b8)
              replace hQ := hid (hQ.out.bel b8)
              replace hX := hid (hX.out.bel b8)
              replace hD := hid (hD.out.below b8)
              clear b8
              go_wp2_with fail
              refine hK.out _ _ ?hS25 (fun hHeld => ?re25)
              case hS25 => exact hM.out.cl
              clear hK K
              (try simp only [Act.put, List.setIfInBounds_toArray, List.set_cons_zero, List.set_cons_succ])
              refine wpAnyH_ready (fuel := 5) (rs := [9]) (by kernel_rfl) (by simp) ?_
              refine AllReadyH.cons (o := ?oi26) ?hi26 (fun K hK => ?st26) AllReadyH.nil
              case hi26 => rw [List.getElem?_toArray]; rfl
              go_simp
              refine (sput_b k s r ks vs a1 b1 c1 d1 key val (by omega) _ hM.out.rw (by omega) (by omega)).mono ?_
              rintro ee wr9 ⟨a2, b2, c2, d2, rfl, hr, ba0, bb0, b9⟩
              have ba2 := hid (ba0.mono hD.out.kp.1)
              have bb2 := hid (bb0.mono hD.out.kp.1)
              clear ba0 bb0
              have hR := hid hr
              clear hr
              obtain ⟨t, ht, ht8, hkl, hvl⟩ := putT_b k s r ks vs key val hs
              generalize putT k s r ks vs key val = tt at *
              obtain ⟨kz, S, R, KS, VS, C⟩ := tt
              dsimp only at ht hkl hvl hR
              subst ht
              replace hM := hid (hM.out.below b9)
              replace hQ := hid (hQ.out.bel b9)
              replace hX := hid (hX.out.bel b9)
              replace hD := hid (hD.out.below b9)
              clear b9
              go_wp2_with fail
              refine hK.out _ _ ?hS26 (fun hHeld => ?re26)
              case hS26 => exact hM.out.cl
              clear hK K
              (try simp only [Act.put, List.setIfInBounds_toArray, List.set_cons_zero, List.set_cons_succ])
              refine wpAnyH_take (i := 10) (oi := ?oi27) (v := ?v27) (fuel := 4) ?hi27 ?hs27 ?hf27 ?hr27 ?hq27 (Or.inl ⟨?hw27, ?hy27⟩) hHeld ?rest27
              case hi27 => rw [List.getElem?_toArray]; rfl
              case hq27 => exact fun _ _ _ h => h
              case hs27 | hf27 | hr27 => kernel_rfl
              case hw27 => rfl
              case hy27 => (intro w1 hSw; (try dsimp only at hSw); go_simp; try with_reducible rfl)
              (try simp only [Act.put, List.setIfInBounds_toArray, List.set_cons_zero, List.set_cons_succ])
              refine wpAnyH_take (i := 11) (oi := ?oi28) (v := ?v28) (fuel := 3) ?hi28 ?hs28 ?hf28 ?hr28 ?hq28 (Or.inl ⟨?hw28, ?hy28⟩) hHeld ?rest28
              case hi28 => rw [List.getElem?_toArray]; rfl
              case hq28 => exact fun _ _ _ h => h
              case hs28 | hf28 | hr28 => kernel_rfl
              case hw28 => rfl
              case hy28 => (intro w1 hSw; (try dsimp only at hSw); go_simp; try with_reducible rfl)
              (try simp only [Act.put, List.setIfInBounds_toArray, List.set_cons_zero, List.set_cons_succ])
              refine wpAnyH_take (i := 12) (oi := ?oi29) (v := ?v29) (fuel := 2) ?hi29 ?hs29 ?hf29 ?hr29 ?hq29 (Or.inl ⟨?hw29, ?hy29⟩) hHeld ?rest29
              case hi29 => rw [List.getElem?_toArray]; rfl
              case hq29 => exact fun _ _ _ h => h
              case hs29 | hf29 | hr29 => kernel_rfl
              case hw29 => rfl
              case hy29 => (intro w1 hSw; (try dsimp only at hSw); go_simp; try with_reducible rfl)
              (try simp only [Act.put, List.setIfInBounds_toArray, List.set_cons_zero, List.set_cons_succ])
              refine wpAnyH_ready (fuel := 1) (rs := [14]) (by kernel_rfl) (by simp) ?_
              refine AllReadyH.cons (o := ?oi30) ?hi30 (fun K hK => ?st30) AllReadyH.nil
              case hi30 => rw [List.getElem?_toArray]; rfl
              obtain ⟨g0, g1, g2, g3, g4⟩ := Box5.cells hX.out
              have gf := Box5.frozen hX.out
              have gl := Box5.lt hX.out
              go_simp
              clear g0 g1 g2 g3 g4 gf gl
              refine hK.out _ _ ?hS30 (fun hHeld => ?re30)
              case hS30 => exact Box5.cells (Box5.st5o (Y := X) hM.out.box (by omega) kz t R (.slice a2 KS.length c2) (.slice b2 VS.length d2))
              clear hK K
              (try simp only [Act.put, List.setIfInBounds_toArray, List.set_cons_zero, List.set_cons_succ])
              refine wpAnyH_take (i := 15) (oi := ?oi31) (v := ?v31) (fuel := 0) ?hi31 ?hs31 ?hf31 ?hr31 ?hq31 (Or.inl ⟨?hw31, ?hy31⟩) hHeld ?rest31
              case hi31 => rw [List.getElem?_toArray]; rfl
              case hq31 => exact fun _ _ _ h => h
              case hs31 | hf31 | hr31 => kernel_rfl
              case hw31 => rfl
              case hy31 => (intro w1 hSw; (try dsimp only at hSw); go_simp; try with_reducible rfl)
              (try simp only [Act.put, List.setIfInBounds_toArray, List.set_cons_zero, List.set_cons_succ])
              refine wpAnyH_done (by kernel_rfl) ?_ _
              clear hHeld
              have hX1 := hid (Box5.st5 hX.out (k' := kz) (s' := t) (r' := R) (v' := .slice a2 KS.length c2) (u' := .slice b2 VS.length d2))
              have hR1 := hid (RW.st5 hX.out hR.out (k' := kz) (s' := t) (r' := R) (v' := .slice a2 KS.length c2) (u' := .slice b2 VS.length d2))
              have hM1 := hid (Box5.st5o (w := wr9) (Y := X) hM.out.box (by omega) kz t R (.slice a2 KS.length c2) (.slice b2 VS.length d2))
              have hQ1 := hid (Box5.st5o hQ.out (Y := X) (by omega) kz t R (.slice a2 KS.length c2) (.slice b2 VS.length d2))
              have hD1 := hid (hD.out.st5 X kz t R (.slice a2 KS.length c2) (.slice b2 VS.length d2) (by omega))
              clear hX hR hM hQ hD
              have hX := hX1.out
              have hR := hR1.out
              have hM := hM1.out
              have hQ := hQ1.out
              have hD := hD1.out
              clear hX1 hR1 hM1 hQ1 hD1
              unfold st5 at hX hR hM hQ hD
              generalize (((((wr9.setCell ⟨X, 0, none⟩ (.int .i64 kz)).setCell ⟨X, 1, none⟩ (.int .i64 t)).setCell ⟨X, 2, none⟩ (.int .i64 R)).setCell ⟨X, 3, none⟩ (.slice a2 KS.length c2)).setCell ⟨X, 4, none⟩ (.slice b2 VS.length d2)) = wz at *
              have HX := hid hX
              have HR := hid hR
              have HM := hid hM
              have HQ := hid hQ
              have HK := hid hD
              clear hX hR hM hQ hD
              obtain ⟨x0, x1, x2, x3, x4⟩ := Box5.cells HX.out
              obtain ⟨y0, y1, y2, y3, y4⟩ := Box5.cells HM.out
              have fM := Box5.frozen HM.out
              have lM := Box5.lt HM.out
              have lX := Box5.lt HX.out
              go_wp2_with fail
              have M2 := Box5.st5 HM.out (k' := kz) (s' := t) (r' := R) (v' := .slice a2 KS.length c2) (u' := .slice b2 VS.length d2)
              have R2 := RW.st5 HM.out HR.out (k' := kz) (s' := t) (r' := R) (v' := .slice a2 KS.length c2) (u' := .slice b2 VS.length d2)
              have Q2 := Box5.st5o HQ.out (Y := M) (by omega) kz t R (.slice a2 KS.length c2) (.slice b2 VS.length d2)
              have K2 := HK.out.st5 M kz t R (.slice a2 KS.length c2) (.slice b2 VS.length d2) (by omega)
              unfold st5 at M2 R2 Q2 K2
              refine ⟨?_, by simp [intOf]; omega⟩
              exact ⟨j - 1, kz, t, R, KS, VS, a2, b2, c2, d2, q2, by rw [pred_int (by omega)], by omega, ⟨M2, R2⟩, Q2, K2, ba2.out, bb2.out, ht8, by omega, by omega, by omega⟩
            exact AllReadyH.nil
          refine AllReadyH.cons (o := ?oi32) ?hi32 (fun K hK => ?st32) ?mo32
          case hi32 => rw [List.getElem?_toArray]; rfl
          case st32 =>
            go_simp
            have ba : Below wr3.heap.size wr3 (wr3.alloc (.cells #[.int .i64 0, .int .i64 0, .int .i64 0, .slice none 0 0, .slice none 0 0] 89)) := (Below.refl _ _).alloc (Nat.le_refl _) _
            have lXM := hM.out.lt
            have lXQ := hQ.out.lt
            have lXB := hD.out.rs.lt
            have hX : Hid (Box5 (wr3.alloc (.cells #[.int .i64 0, .int .i64 0, .int .i64 0, .slice none 0 0, .slice none 0 0] 89)) wr3.heap.size 0 0 0 (.slice none 0 0) (.slice none 0 0)) := World.alloc_heap_new wr3 _
            replace hM := hid (hM.out.below ba)
            replace hQ := hid (hQ.out.bel ba)
            replace hD := hid (hD.out.below ba)
            clear ba
            generalize wr3.alloc (.cells #[.int .i64 0, .int .i64 0, .int .i64 0, .slice none 0 0, .slice none 0 0] 89) = wr13 at *
            generalize wr3.heap.size = X at *
            refine hK.out _ _ ?hS32 (fun hHeld => ?re32)
            case hS32 => exact hM.out.cl
            clear hK K
            (try simp only [Act.put, List.setIfInBounds_toArray, List.set_cons_zero, List.set_cons_succ])
            refine wpAnyH_ready (fuel := 7) (rs := [5]) (by kernel_rfl) (by simp) ?_
            refine AllReadyH.cons (o := ?oi33) ?hi33 (fun K hK => ?st33) AllReadyH.nil
            case hi33 => rw [List.getElem?_toArray]; rfl
            go_simp
            refine (number_k hD.out.rs (by omega)).mono ?_
            rintro ee wr5 ⟨v, q2, rfl, hv, hq2, k5⟩
            replace hM := hid (hM.out.kept (by omega) hD.out.rs k5)
            replace hQ := hid (hQ.out.k3 (by omega) k5)
            replace hX := hid (hX.out.k3 (by omega) k5)
            replace hD := hid (hD.out.draw k5)
            clear k5
            go_wp2_with fail
            refine hK.out _ _ ?hS33 (fun hHeld => ?re33)
            case hS33 => exact hM.out.cl
            clear hK K
            (try simp only [Act.put, List.setIfInBounds_toArray, List.set_cons_zero, List.set_cons_succ])
            refine wpAnyH_ready (fuel := 6) (rs := [8]) (by kernel_rfl) (by simp) ?_
            refine AllReadyH.cons (o := ?oi34) ?hi34 (fun K hK => ?st34) AllReadyH.nil
            case hi34 => rw [List.getElem?_toArray]; rfl
            go_simp
            refine (l4Bytes_c v s _ hs).mono ?_
            rintro ee wr8 ⟨val, rfl, hval, b8⟩
            replace hM := hid (hM.out.below b8)
            replace hQ := hid (hQ.out.bel b8)
            replace hX := hid (hX.out.bel b8)
            replace hD := hid (hD.out.below b8)
            clear b8
            go_wp2_with fail
            refine hK.out _ _ ?hS34 (fun hHeld => ?re34)
            case hS34 => exact hM.out.cl
            clear hK K
            (try simp only [Act.put, List.setIfInBounds_toArray, List.set_cons_zero, List.set_cons_succ])
            refine wpAnyH_ready (fuel := 5) (rs := [9]) (by kernel_rfl) (by simp) ?_
            refine AllReadyH.cons (o := ?oi35) ?hi35 (fun K hK => ?st35) AllReadyH.nil
            case hi35 => rw [List.getElem?_toArray]; rfl
            go_simp
            refine (sput_b k s r ks vs a1 b1 c1 d1 key val (by omega) _ hM.out.rw (by omega) (by omega)).mono ?_
            rintro ee wr9 ⟨a2, b2, c2, d2, rfl, hr, ba0, bb0, b9⟩
            have ba2 := hid (ba0.mono hD.out.kp.1)
            have bb2 := hid (bb0.mono hD.out.kp.1)
            clear ba0 bb0
            have hR := hid hr
            clear hr
            obtain ⟨t, ht, ht8, hkl, hvl⟩ := putT_b k s r ks vs key val hs
            generalize putT k s r ks vs key val = tt at *
            obtain ⟨kz, S, R, KS, VS, C⟩ := tt
            dsimp only at ht hkl hvl hR
            subst ht
            replace hM := hid (hM.out.below b9)
            replace hQ := hid (hQ.out.bel b9)
            replace hX := hid (hX.out.bel b9)
            replace hD := hid (hD.out.below b9)
            clear b9
            go_wp2_with fail
            refine hK.out _ _ ?hS35 (fun hHeld => ?re35)
            case hS35 => exact hM.out.cl
            clear hK K
            (try simp only [Act.put, List.setIfInBounds_toArray, List.set_cons_zero, List.set_cons_succ])
            refine wpAnyH_take (i := 10) (oi := ?oi36) (v := ?v36) (fuel := 4) ?hi36 ?hs36 ?hf36 ?hr36 ?hq36 (Or.inl ⟨?hw36, ?hy36⟩) hHeld ?rest36
            case hi36 => rw [List.getElem?_toArray]; rfl
            case hq36 => exact fun _ _ _ h => h
            case hs36 | hf36 | hr36 => kernel_rfl
            case hw36 => rfl
            case hy36 => (intro w1 hSw; (try dsimp only at hSw); go_simp; try with_reducible rfl)
            (try simp only [Act.put, List.setIfInBounds_toArray, List.set_cons_zero, List.set_cons_succ])
            refine wpAnyH_take (i := 11) (oi := ?oi37) (v := ?v37) (fuel := 3) ?hi37 ?hs37 ?hf37 ?hr37 ?hq37 (Or.inl ⟨?hw37, ?hy37⟩) hHeld ?rest37
            case hi37 => rw [List.getElem?_toArray]; rfl
            case hq37 => exact fun _ _ _ h => h
            case hs37 | hf37 | hr37 => kernel_rfl
            case hw37 => rfl
            case hy37 => (intro w1 hSw; (try dsimp only at hSw); go_simp; try with_reducible rfl)
            (try simp only [Act.put, List.setIfInBounds_toArray, List.set_cons_zero, List.set_cons_succ])
            refine wpAnyH_take (i := 12) (oi := ?oi38) (v := ?v38) (fuel := 2) ?hi38 ?hs38 ?hf38 ?hr38 ?hq38 (Or.inl ⟨?hw38, ?hy38⟩) hHeld ?rest38
            case hi38 => rw [List.getElem?_toArray]; rfl
            case hq38 => exact fun _ _ _ h => h
            case hs38 | hf38 | hr38 => kernel_rfl
            case hw38 => rfl
            case hy38 => (intro w1 hSw; (try dsimp only at hSw); go_simp; try with_reducible rfl)
            (try simp only [Act.put, List.setIfInBounds_toArray, List.set_cons_zero, List.set_cons_succ])
            refine wpAnyH_ready (fuel := 1) (rs := [14]) (by kernel_rfl) (by simp) ?_
            refine AllReadyH.cons (o := ?oi39) ?hi39 (fun K hK => ?st39) AllReadyH.nil
            case hi39 => rw [List.getElem?_toArray]; rfl
            obtain ⟨g0, g1, g2, g3, g4⟩ := Box5.cells hX.out
            have gf := Box5.frozen hX.out
            have gl := Box5.lt hX.out
            go_simp
            clear g0 g1 g2 g3 g4 gf gl
            refine hK.out _ _ ?hS39 (fun hHeld => ?re39)
            case hS39 => exact Box5.cells (Box5.st5o (Y := X) hM.out.box (by omega) kz t R (.slice a2 KS.length c2) (.slice b2 VS.length d2))
            clear hK K
            (try simp only [Act.put, List.setIfInBounds_toArray, List.set_cons_zero, List.set_cons_succ])
            refine wpAnyH_take (i := 15) (oi := ?oi40) (v := ?v40) (fuel := 0) ?hi40 ?hs40 ?hf40 ?hr40 ?hq40 (Or.inl ⟨?hw40, ?hy40⟩) hHeld ?rest40
            case hi40 => rw [List.getElem?_toArray]; rfl
            case hq40 => exact fun _ _ _ h => h
            case hs40 | hf40 | hr40 => kernel_rfl
            case hw40 => rfl
            case hy40 => (intro w1 hSw; (try dsimp only at hSw); go_simp; try with_reducible rfl)
            (try simp only [Act.put, List.setIfInBounds_toArray, List.set_cons_zero, List.set_cons_succ])
            refine wpAnyH_done (by kernel_rfl) ?_ _
            clear hHeld
            have hX1 := hid (Box5.st5 hX.out (k' := kz) (s' := t) (r' := R) (v' := .slice a2 KS.length c2) (u' := .slice b2 VS.length d2))
            have hR1 := hid (RW.st5 hX.out hR.out (k' := kz) (s' := t) (r' := R) (v' := .slice a2 KS.length c2) (u' := .slice b2 VS.length d2))
            have hM1 := hid (Box5.st5o (w := wr9) (Y := X) hM.out.box (by omega) kz t R (.slice a2 KS.length c2) (.slice b2 VS.length d2))
            have hQ1 := hid (Box5.st5o hQ.out (Y := X) (by omega) kz t R (.slice a2 KS.length c2) (.slice b2 VS.length d2))
            have hD1 := hid (hD.out.st5 X kz t R (.slice a2 KS.length c2) (.slice b2 VS.length d2) (by omega))
            clear hX hR hM hQ hD
            have hX := hX1.out
            have hR := hR1.out
            have hM := hM1.out
            have hQ := hQ1.out
            have hD := hD1.out
            clear hX1 hR1 hM1 hQ1 hD1
            unfold st5 at hX hR hM hQ hD
            generalize (((((wr9.setCell ⟨X, 0, none⟩ (.int .i64 kz)).setCell ⟨X, 1, none⟩ (.int .i64 t)).setCell ⟨X, 2, none⟩ (.int .i64 R)).setCell ⟨X, 3, none⟩ (.slice a2 KS.length c2)).setCell ⟨X, 4, none⟩ (.slice b2 VS.length d2)) = wz at *
            have HX := hid hX
            have HR := hid hR
            have HM := hid hM
            have HQ := hid hQ
            have HK := hid hD
            clear hX hR hM hQ hD
            obtain ⟨x0, x1, x2, x3, x4⟩ := Box5.cells HX.out
            obtain ⟨y0, y1, y2, y3, y4⟩ := Box5.cells HM.out
            have fM := Box5.frozen HM.out
            have lM := Box5.lt HM.out
            have lX := Box5.lt HX.out
            go_wp2_with fail
            have M2 := Box5.st5 HM.out (k' := kz) (s' := t) (r' := R) (v' := .slice a2 KS.length c2) (u' := .slice b2 VS.length d2)
            have R2 := RW.st5 HM.out HR.out (k' := kz) (s' := t) (r' := R) (v' := .slice a2 KS.length c2) (u' := .slice b2 VS.length d2)
            have Q2 := Box5.st5o HQ.out (Y := M) (by omega) kz t R (.slice a2 KS.length c2) (.slice b2 VS.length d2)
            have K2 := HK.out.st5 M kz t R (.slice a2 KS.length c2) (.slice b2 VS.length d2) (by omega)
            unfold st5 at M2 R2 Q2 K2
            refine ⟨?_, by simp [intOf]; omega⟩
            exact ⟨j - 1, kz, t, R, KS, VS, a2, b2, c2, d2, q2, by rw [pred_int (by omega)], by omega, ⟨M2, R2⟩, Q2, K2, ba2.out, bb2.out, ht8, by omega, by omega, by omega⟩
          exact AllReadyH.nil
        refine AllReadyH.cons (o := ?oi41) ?hi41 (fun K hK => ?st41) ?mo41
        case hi41 => rw [List.getElem?_toArray]; rfl
        case st41 =>
          go_simp
          have ba : Below wr2.heap.size wr2 (wr2.alloc (.cells #[.int .i64 0, .int .i64 0, .int .i64 0, .slice none 0 0, .slice none 0 0] 89)) := (Below.refl _ _).alloc (Nat.le_refl _) _
          have lXM := hM.out.lt
          have lXQ := hQ.out.lt
          have lXB := hD.out.rs.lt
          have hX : Hid (Box5 (wr2.alloc (.cells #[.int .i64 0, .int .i64 0, .int .i64 0, .slice none 0 0, .slice none 0 0] 89)) wr2.heap.size 0 0 0 (.slice none 0 0) (.slice none 0 0)) := World.alloc_heap_new wr2 _
          replace hM := hid (hM.out.below ba)
          replace hQ := hid (hQ.out.bel ba)
          replace hL := hid (hL.out.below ba)
          replace hD := hid (hD.out.below ba)
          clear ba
          generalize wr2.alloc (.cells #[.int .i64 0, .int .i64 0, .int .i64 0, .slice none 0 0, .slice none 0 0] 89) = wr13 at *
          generalize wr2.heap.size = X at *
          refine hK.out _ _ ?hS41 (fun hHeld => ?re41)
          case hS41 => exact hM.out.cl
          clear hK K
          (try simp only [Act.put, List.setIfInBounds_toArray, List.set_cons_zero, List.set_cons_succ])
          refine wpAnyH_ready (fuel := 8) (rs := [3]) (by kernel_rfl) (by simp) ?_
          refine AllReadyH.cons (o := ?oi42) ?hi42 (fun K hK => ?st42) AllReadyH.nil
          case hi42 => rw [List.getElem?_toArray]; rfl
          go_simp
          refine (one_l hD.out.rs (by omega) L [0, 1, 2, 3, 7, 200, 4294967295] (by omega) hL.out (by decide) (by decide)).mono ?_
          rintro ee wr3 ⟨key, hkey, rfl, k3⟩
          clear hkey hL
          replace hM := hid (hM.out.kept (by omega) hD.out.rs k3)
          replace hQ := hid (hQ.out.k3 (by omega) k3)
          replace hX := hid (hX.out.k3 (by omega) k3)
          replace hD := hid (hD.out.draw k3)
          clear k3
          go_wp2_with fail
          refine hK.out _ _ ?hS42 (fun hHeld => ?re42)
          case hS42 => exact hM.out.cl
          clear hK K
          (try simp only [Act.put, List.setIfInBounds_toArray, List.set_cons_zero, List.set_cons_succ])
          refine wpAnyH_ready (fuel := 7) (rs := [5]) (by kernel_rfl) (by simp) ?_
          refine AllReadyH.cons (o := ?oi43) ?hi43 (fun K hK => ?st43) AllReadyH.nil
          case hi43 => rw [List.getElem?_toArray]; rfl
          go_simp
          refine (number_k hD.out.rs (by omega)).mono ?_
          rintro ee wr5 ⟨v, q2, rfl, hv, hq2, k5⟩
          replace hM := hid (hM.out.kept (by omega) hD.out.rs k5)
          replace hQ := hid (hQ.out.k3 (by omega) k5)
          replace hX := hid (hX.out.k3 (by omega) k5)
          replace hD := hid (hD.out.draw k5)
          clear k5
          go_wp2_with fail
          refine hK.out _ _ ?hS43 (fun hHeld => ?re43)
          case hS43 => exact hM.out.cl
          clear hK K
          (try simp only [Act.put, List.setIfInBounds_toArray, List.set_cons_zero, List.set_cons_succ])
          refine wpAnyH_ready (fuel := 6) (rs := [8]) (by kernel_rfl) (by simp) ?_
          refine AllReadyH.cons (o := ?oi44) ?hi44 (fun K hK => ?st44) AllReadyH.nil
          case hi44 => rw [List.getElem?_toArray]; rfl
          go_simp
          refine (l4Bytes_c v s _ hs).mono ?_
          rintro ee wr8 ⟨val, rfl, hval, b8⟩
          replace hM := hid (hM.out.below b8)
          replace hQ := hid (hQ.out.bel b8)
          replace hX := hid (hX.out.bel b8)
          replace hD := hid (hD.out.below b8)
          clear b8
          go_wp2_with fail
          refine hK.out _ _ ?hS44 (fun hHeld => ?re44)
          case hS44 => exact hM.out.cl
          clear hK K
          (try simp only [Act.put, List.setIfInBounds_toArray, List.set_cons_zero, List.set_cons_succ])
          refine wpAnyH_ready (fuel := 5) (rs := [9]) (by kernel_rfl) (by simp) ?_
          refine AllReadyH.cons (o := ?oi45) ?hi45 (fun K hK => ?st45) AllReadyH.nil
          case hi45 => rw [List.getElem?_toArray]; rfl
          go_simp
          refine (sput_b k s r ks vs a1 b1 c1 d1 key val (by omega) _ hM.out.rw (by omega) (by omega)).mono ?_
          rintro ee wr9 ⟨a2, b2, c2, d2, rfl, hr, ba0, bb0, b9⟩
          have ba2 := hid (ba0.mono hD.out.kp.1)
          have bb2 := hid (bb0.mono hD.out.kp.1)
          clear ba0 bb0
          have hR := hid hr
          clear hr
          obtain ⟨t, ht, ht8, hkl, hvl⟩ := putT_b k s r ks vs key val hs
          generalize putT k s r ks vs key val = tt at *
          obtain ⟨kz, S, R, KS, VS, C⟩ := tt
          dsimp only at ht hkl hvl hR
          subst ht
          replace hM := hid (hM.out.below b9)
          replace hQ := hid (hQ.out.bel b9)
          replace hX := hid (hX.out.bel b9)
          replace hD := hid (hD.out.below b9)
          clear b9
          go_wp2_with fail
          refine hK.out _ _ ?hS45 (fun hHeld => ?re45)
          case hS45 => exact hM.out.cl
          clear hK K
          (try simp only [Act.put, List.setIfInBounds_toArray, List.set_cons_zero, List.set_cons_succ])
          refine wpAnyH_take (i := 10) (oi := ?oi46) (v := ?v46) (fuel := 4) ?hi46 ?hs46 ?hf46 ?hr46 ?hq46 (Or.inl ⟨?hw46, ?hy46⟩) hHeld ?rest46
          case hi46 => rw [List.getElem?_toArray]; rfl
          case hq46 => exact fun _ _ _ h => h
          case hs46 | hf46 | hr46 => kernel_rfl
          case hw46 => rfl
          case hy46 => (intro w1 hSw; (try dsimp only at hSw); go_simp; try with_reducible rfl)
          (try simp only [Act.put, List.setIfInBounds_toArray, List.set_cons_zero, List.set_cons_succ])
          refine wpAnyH_take (i := 11) (oi := ?oi47) (v := ?v47) (fuel := 3) ?hi47 ?hs47 ?hf47 ?hr47 ?hq47 (Or.inl ⟨?hw47, ?hy47⟩) hHeld ?rest47
          case hi47 => rw [List.getElem?_toArray]; rfl
          case hq47 => exact fun _ _ _ h => h
          case hs47 | hf47 | hr47 => kernel_rfl
          case hw47 => rfl
          case hy47 => (intro w1 hSw; (try dsimp only at hSw); go_simp; try with_reducible rfl)
          (try simp only [Act.put, List.setIfInBounds_toArray, List.set_cons_zero, List.set_cons_succ])
          refine wpAnyH_take (i := 12) (oi := ?oi48) (v := ?v48) (fuel := 2) ?hi48 ?hs48 ?hf48 ?hr48 ?hq48 (Or.inl ⟨?hw48, ?hy48⟩) hHeld ?rest48
          case hi48 => rw [List.getElem?_toArray]; rfl
          case hq48 => exact fun _ _ _ h => h
          case hs48 | hf48 | hr48 => kernel_rfl
          case hw48 => rfl
          case hy48 => (intro w1 hSw; (try dsimp only at hSw); go_simp; try with_reducible rfl)
          (try simp only [Act.put, List.setIfInBounds_toArray, List.set_cons_zero, List.set_cons_succ])
          refine wpAnyH_ready (fuel := 1) (rs := [14]) (by kernel_rfl) (by simp) ?_
          refine AllReadyH.cons (o := ?oi49) ?hi49 (fun K hK => ?st49) AllReadyH.nil
          case hi49 => rw [List.getElem?_toArray]; rfl
          obtain ⟨g0, g1, g2, g3, g4⟩ := Box5.cells hX.out
          have gf := Box5.frozen hX.out
          have gl := Box5.lt hX.out
          go_simp
          clear g0 g1 g2 g3 g4 gf gl
          refine hK.out _ _ ?hS49 (fun hHeld => ?re49)
          case hS49 => exact Box5.cells (Box5.st5o (Y := X) hM.out.box (by omega) kz t R (.slice a2 KS.length c2) (.slice b2 VS.length d2))
          clear hK K
          (try simp only [Act.put, List.setIfInBounds_toArray, List.set_cons_zero, List.set_cons_succ])
          refine wpAnyH_take (i := 15) (oi := ?oi50) (v := ?v50) (fuel := 0) ?hi50 ?hs50 ?hf50 ?hr50 ?hq50 (Or.inl ⟨?hw50, ?hy50⟩) hHeld ?rest50
          case hi50 => rw [List.getElem?_toArray]; rfl
          case hq50 => exact fun _ _ _ h => h
          case hs50 | hf50 | hr50 => kernel_rfl
          case hw50 => rfl
          case hy50 => (intro w1 hSw; (try dsimp only at hSw); go_simp; try with_reducible rfl)
          (try simp only [Act.put, List.setIfInBounds_toArray, List.set_cons_zero, List.set_cons_succ])
          refine wpAnyH_done (by kernel_rfl) ?_ _
          clear hHeld
          have hX1 := hid (Box5.st5 hX.out (k' := kz) (s' := t) (r' := R) (v' := .slice a2 KS.length c2) (u' := .slice b2 VS.length d2))
          have hR1 := hid (RW.st5 hX.out hR.out (k' := kz) (s' := t) (r' := R) (v' := .slice a2 KS.length c2) (u' := .slice b2 VS.length d2))
          have hM1 := hid (Box5.st5o (w := wr9) (Y := X) hM.out.box (by omega) kz t R (.slice a2 KS.length c2) (.slice b2 VS.length d2))
          have hQ1 := hid (Box5.st5o hQ.out (Y := X) (by omega) kz t R (.slice a2 KS.length c2) (.slice b2 VS.length d2))
          have hD1 := hid (hD.out.st5 X kz t R (.slice a2 KS.length c2) (.slice b2 VS.length d2) (by omega))
          clear hX hR hM hQ hD
          have hX := hX1.out
          have hR := hR1.out
          have hM := hM1.out
          have hQ := hQ1.out
          have hD := hD1.out
          clear hX1 hR1 hM1 hQ1 hD1
          unfold st5 at hX hR hM hQ hD
          generalize (((((wr9.setCell ⟨X, 0, none⟩ (.int .i64 kz)).setCell ⟨X, 1, none⟩ (.int .i64 t)).setCell ⟨X, 2, none⟩ (.int .i64 R)).setCell ⟨X, 3, none⟩ (.slice a2 KS.length c2)).setCell ⟨X, 4, none⟩ (.slice b2 VS.length d2)) = wz at *
          have HX := hid hX
          have HR := hid hR
          have HM := hid hM
          have HQ := hid hQ
          have HK := hid hD
          clear hX hR hM hQ hD
          obtain ⟨x0, x1, x2, x3, x4⟩ := Box5.cells HX.out
          obtain ⟨y0, y1, y2, y3, y4⟩ := Box5.cells HM.out
          have fM := Box5.frozen HM.out
          have lM := Box5.lt HM.out
          have lX := Box5.lt HX.out
          go_wp2_with fail
          have M2 := Box5.st5 HM.out (k' := kz) (s' := t) (r' := R) (v' := .slice a2 KS.length c2) (u' := .slice b2 VS.length d2)
          have R2 := RW.st5 HM.out HR.out (k' := kz) (s' := t) (r' := R) (v' := .slice a2 KS.length c2) (u' := .slice b2 VS.length d2)
          have Q2 := Box5.st5o HQ.out (Y := M) (by omega) kz t R (.slice a2 KS.length c2) (.slice b2 VS.length d2)
          have K2 := HK.out.st5 M kz t R (.slice a2 KS.length c2) (.slice b2 VS.length d2) (by omega)
          unfold st5 at M2 R2 Q2 K2
          refine ⟨?_, by simp [intOf]; omega⟩
          exact ⟨j - 1, kz, t, R, KS, VS, a2, b2, c2, d2, q2, by rw [pred_int (by omega)], by omega, ⟨M2, R2⟩, Q2, K2, ba2.out, bb2.out, ht8, by omega, by omega, by omega⟩
        exact AllReadyH.nil
      refine AllReadyH.cons (o := ?oi51) ?hi51 (fun K hK => ?st51) ?mo51
      case hi51 => rw [List.getElem?_toArray]; rfl
      case st51 =>
        go_simp
        have ba : Below W1.heap.size W1 (W1.alloc (.cells #[.int .i64 0, .int .i64 0, .int .i64 0, .slice none 0 0, .slice none 0 0] 89)) := (Below.refl _ _).alloc (Nat.le_refl _) _
        have lXM := hM.out.lt
        have lXQ := hQ.out.lt
        have lXB := hD.out.rs.lt
        have hX : Hid (Box5 (W1.alloc (.cells #[.int .i64 0, .int .i64 0, .int .i64 0, .slice none 0 0, .slice none 0 0] 89)) W1.heap.size 0 0 0 (.slice none 0 0) (.slice none 0 0)) := World.alloc_heap_new W1 _
        replace hM := hid (hM.out.below ba)
        replace hQ := hid (hQ.out.bel ba)
        replace hD := hid (hD.out.below ba)
        clear ba
        generalize W1.alloc (.cells #[.int .i64 0, .int .i64 0, .int .i64 0, .slice none 0 0, .slice none 0 0] 89) = wr13 at *
        generalize W1.heap.size = X at *
        refine hK.out _ _ ?hS51 (fun hHeld => ?re51)
        case hS51 => exact hM.out.cl
        clear hK K
        (try simp only [Act.put, List.setIfInBounds_toArray, List.set_cons_zero, List.set_cons_succ])
        refine wpAnyH_ready (fuel := 9) (rs := [2]) (by kernel_rfl) (by simp) ?_
        refine AllReadyH.cons (o := ?oi52) ?hi52 (fun K hK => ?st52) AllReadyH.nil
        case hi52 => rw [List.getElem?_toArray]; rfl
        go_simp
        have ba : Below wr13.heap.size wr13 (wr13.alloc (.cells #[.int .i64 0, .int .i64 1, .int .i64 2, .int .i64 3, .int .i64 7, .int .i64 200, .int .i64 4294967295] 3)) := (Below.refl _ _).alloc (Nat.le_refl _) _
        have lLM := hM.out.lt
        have lLQ := hQ.out.lt
        have lLB := hD.out.rs.lt
        have hL := hid (LI.new wr13 [0, 1, 2, 3, 7, 200, 4294967295] 3)
        replace hL : Hid (LI (wr13.alloc (.cells #[.int .i64 0, .int .i64 1, .int .i64 2, .int .i64 3, .int .i64 7, .int .i64 200, .int .i64 4294967295] 3)) wr13.heap.size [0, 1, 2, 3, 7, 200, 4294967295]) := hL
        replace hM := hid (hM.out.below ba)
        replace hQ := hid (hQ.out.bel ba)
        replace hX := hid (hX.out.bel ba)
        replace hD := hid (hD.out.below ba)
        clear ba
        generalize wr13.alloc (.cells #[.int .i64 0, .int .i64 1, .int .i64 2, .int .i64 3, .int .i64 7, .int .i64 200, .int .i64 4294967295] 3) = wr2 at *
        generalize wr13.heap.size = L at *
        refine hK.out _ _ ?hS52 (fun hHeld => ?re52)
        case hS52 => exact hM.out.cl
        clear hK K
        (try simp only [Act.put, List.setIfInBounds_toArray, List.set_cons_zero, List.set_cons_succ])
        refine wpAnyH_ready (fuel := 8) (rs := [3]) (by kernel_rfl) (by simp) ?_
        refine AllReadyH.cons (o := ?oi53) ?hi53 (fun K hK => ?st53) AllReadyH.nil
        case hi53 => rw [List.getElem?_toArray]; rfl
        go_simp
        refine (one_l hD.out.rs (by omega) L [0, 1, 2, 3, 7, 200, 4294967295] (by omega) hL.out (by decide) (by decide)).mono ?_
        rintro ee wr3 ⟨key, hkey, rfl, k3⟩
        clear hkey hL
        replace hM := hid (hM.out.kept (by omega) hD.out.rs k3)
        replace hQ := hid (hQ.out.k3 (by omega) k3)
        replace hX := hid (hX.out.k3 (by omega) k3)
        replace hD := hid (hD.out.draw k3)
        clear k3
        go_wp2_with fail
        refine hK.out _ _ ?hS53 (fun hHeld => ?re53)
        case hS53 => exact hM.out.cl
        clear hK K
        (try simp only [Act.put, List.setIfInBounds_toArray, List.set_cons_zero, List.set_cons_succ])
        refine wpAnyH_ready (fuel := 7) (rs := [5]) (by kernel_rfl) (by simp) ?_
        refine AllReadyH.cons (o := ?oi54) ?hi54 (fun K hK => ?st54) AllReadyH.nil
        case hi54 => rw [List.getElem?_toArray]; rfl
        go_simp
        refine (number_k hD.out.rs (by omega)).mono ?_
        rintro ee wr5 ⟨v, q2, rfl, hv, hq2, k5⟩
        replace hM := hid (hM.out.kept (by omega) hD.out.rs k5)
        replace hQ := hid (hQ.out.k3 (by omega) k5)
        replace hX := hid (hX.out.k3 (by omega) k5)
        replace hD := hid (hD.out.draw k5)
        clear k5
        go_wp2_with fail
        refine hK.out _ _ ?hS54 (fun hHeld => ?re54)
        case hS54 => exact hM.out.cl
        clear hK K
        (try simp only [Act.put, List.setIfInBounds_toArray, List.set_cons_zero, List.set_cons_succ])
        refine wpAnyH_ready (fuel := 6) (rs := [8]) (by kernel_rfl) (by simp) ?_
        refine AllReadyH.cons (o := ?oi55) ?hi55 (fun K hK => ?st55) AllReadyH.nil
        case hi55 => rw [List.getElem?_toArray]; rfl
        go_simp
        refine (l4Bytes_c v s _ hs).mono ?_
        rintro ee wr8 ⟨val, rfl, hval, b8⟩
        replace hM := hid (hM.out.below b8)
        replace hQ := hid (hQ.out.bel b8)
        replace hX := hid (hX.out.bel b8)
        replace hD := hid (hD.out.below b8)
        clear b8
        go_wp2_with fail
        refine hK.out _ _ ?hS55 (fun hHeld => ?re55)
        case hS55 => exact hM.out.cl
        clear hK K
        (try simp only [Act.put, List.setIfInBounds_toArray, List.set_cons_zero, List.set_cons_succ])
        refine wpAnyH_ready (fuel := 5) (rs := [9]) (by kernel_rfl) (by simp) ?_
        refine AllReadyH.cons (o := ?oi56) ?hi56 (fun K hK => ?st56) AllReadyH.nil
        case hi56 => rw [List.getElem?_toArray]; rfl
        go_simp
        refine (sput_b k s r ks vs a1 b1 c1 d1 key val (by omega) _ hM.out.rw (by omega) (by omega)).mono ?_
        rintro ee wr9 ⟨a2, b2, c2, d2, rfl, hr, ba0, bb0, b9⟩
        have ba2 := hid (ba0.mono hD.out.kp.1)
        have bb2 := hid (bb0.mono hD.out.kp.1)
        clear ba0 bb0
        have hR := hid hr
        clear hr
        obtain ⟨t, ht, ht8, hkl, hvl⟩ := putT_b k s r ks vs key val hs
        generalize putT k s r ks vs key val = tt at *
        obtain ⟨kz, S, R, KS, VS, C⟩ := tt
        dsimp only at ht hkl hvl hR
        subst ht
        replace hM := hid (hM.out.below b9)
        replace hQ := hid (hQ.out.bel b9)
        replace hX := hid (hX.out.bel b9)
        replace hD := hid (hD.out.below b9)
        clear b9
        go_wp2_with fail
        refine hK.out _ _ ?hS56 (fun hHeld => ?re56)
        case hS56 => exact hM.out.cl
        clear hK K
        (try simp only [Act.put, List.setIfInBounds_toArray, List.set_cons_zero, List.set_cons_succ])
        refine wpAnyH_take (i := 10) (oi := ?oi57) (v := ?v57) (fuel := 4) ?hi57 ?hs57 ?hf57 ?hr57 ?hq57 (Or.inl ⟨?hw57, ?hy57⟩) hHeld ?rest57
        case hi57 => rw [List.getElem?_toArray]; rfl
        case hq57 => exact fun _ _ _ h => h
        case hs57 | hf57 | hr57 => kernel_rfl
        case hw57 => rfl
        case hy57 => (intro w1 hSw; (try dsimp only at hSw); go_simp; try with_reducible rfl)
        (try simp only [Act.put, List.setIfInBounds_toArray, List.set_cons_zero, List.set_cons_succ])
        refine wpAnyH_take (i := 11) (oi := ?oi58) (v := ?v58) (fuel := 3) ?hi58 ?hs58 ?hf58 ?hr58 ?hq58 (Or.inl ⟨?hw58, ?hy58⟩) hHeld ?rest58
        case hi58 => rw [List.getElem?_toArray]; rfl
        case hq58 => exact fun _ _ _ h => h
        case hs58 | hf58 | hr58 => kernel_rfl
        case hw58 => rfl
        case hy58 => (intro w1 hSw; (try dsimp only at hSw); go_simp; try with_reducible rfl)
        (try simp only [Act.put, List.setIfInBounds_toArray, List.set_cons_zero, List.set_cons_succ])
        refine wpAnyH_take (i := 12) (oi := ?oi59) (v := ?v59) (fuel := 2) ?hi59 ?hs59 ?hf59 ?hr59 ?hq59 (Or.inl ⟨?hw59, ?hy59⟩) hHeld ?rest59
        case hi59 => rw [List.getElem?_toArray]; rfl
        case hq59 => exact fun _ _ _ h => h
        case hs59 | hf59 | hr59 => kernel_rfl
        case hw59 => rfl
        case hy59 => (intro w1 hSw; (try dsimp only at hSw); go_simp; try with_reducible rfl)
        (try simp only [Act.put, List.setIfInBounds_toArray, List.set_cons_zero, List.set_cons_succ])
        refine wpAnyH_ready (fuel := 1) (rs := [14]) (by kernel_rfl) (by simp) ?_
        refine AllReadyH.cons (o := ?oi60) ?hi60 (fun K hK => ?st60) AllReadyH.nil
        case hi60 => rw [List.getElem?_toArray]; rfl
        obtain ⟨g0, g1, g2, g3, g4⟩ := Box5.cells hX.out
        have gf := Box5.frozen hX.out
        have gl := Box5.lt hX.out
        go_simp
        clear g0 g1 g2 g3 g4 gf gl
        refine hK.out _ _ ?hS60 (fun hHeld => ?re60)
        case hS60 => exact Box5.cells (Box5.st5o (Y := X) hM.out.box (by omega) kz t R (.slice a2 KS.length c2) (.slice b2 VS.length d2))
        clear hK K
        (try simp only [Act.put, List.setIfInBounds_toArray, List.set_cons_zero, List.set_cons_succ])
        refine wpAnyH_take (i := 15) (oi := ?oi61) (v := ?v61) (fuel := 0) ?hi61 ?hs61 ?hf61 ?hr61 ?hq61 (Or.inl ⟨?hw61, ?hy61⟩) hHeld ?rest61
        case hi61 => rw [List.getElem?_toArray]; rfl
        case hq61 => exact fun _ _ _ h => h
        case hs61 | hf61 | hr61 => kernel_rfl
        case hw61 => rfl
        case hy61 => (intro w1 hSw; (try dsimp only at hSw); go_simp; try with_reducible rfl)
        (try simp only [Act.put, List.setIfInBounds_toArray, List.set_cons_zero, List.set_cons_succ])
        refine wpAnyH_done (by kernel_rfl) ?_ _
        clear hHeld
        have hX1 := hid (Box5.st5 hX.out (k' := kz) (s' := t) (r' := R) (v' := .slice a2 KS.length c2) (u' := .slice b2 VS.length d2))
        have hR1 := hid (RW.st5 hX.out hR.out (k' := kz) (s' := t) (r' := R) (v' := .slice a2 KS.length c2) (u' := .slice b2 VS.length d2))
        have hM1 := hid (Box5.st5o (w := wr9) (Y := X) hM.out.box (by omega) kz t R (.slice a2 KS.length c2) (.slice b2 VS.length d2))
        have hQ1 := hid (Box5.st5o hQ.out (Y := X) (by omega) kz t R (.slice a2 KS.length c2) (.slice b2 VS.length d2))
        have hD1 := hid (hD.out.st5 X kz t R (.slice a2 KS.length c2) (.slice b2 VS.length d2) (by omega))
        clear hX hR hM hQ hD
        have hX := hX1.out
        have hR := hR1.out
        have hM := hM1.out
        have hQ := hQ1.out
        have hD := hD1.out
        clear hX1 hR1 hM1 hQ1 hD1
        unfold st5 at hX hR hM hQ hD
        generalize (((((wr9.setCell ⟨X, 0, none⟩ (.int .i64 kz)).setCell ⟨X, 1, none⟩ (.int .i64 t)).setCell ⟨X, 2, none⟩ (.int .i64 R)).setCell ⟨X, 3, none⟩ (.slice a2 KS.length c2)).setCell ⟨X, 4, none⟩ (.slice b2 VS.length d2)) = wz at *
        have HX := hid hX
        have HR := hid hR
        have HM := hid hM
        have HQ := hid hQ
        have HK := hid hD
        clear hX hR hM hQ hD
        obtain ⟨x0, x1, x2, x3, x4⟩ := Box5.cells HX.out
        obtain ⟨y0, y1, y2, y3, y4⟩ := Box5.cells HM.out
        have fM := Box5.frozen HM.out
        have lM := Box5.lt HM.out
        have lX := Box5.lt HX.out
        go_wp2_with fail
        have M2 := Box5.st5 HM.out (k' := kz) (s' := t) (r' := R) (v' := .slice a2 KS.length c2) (u' := .slice b2 VS.length d2)
        have R2 := RW.st5 HM.out HR.out (k' := kz) (s' := t) (r' := R) (v' := .slice a2 KS.length c2) (u' := .slice b2 VS.length d2)
        have Q2 := Box5.st5o HQ.out (Y := M) (by omega) kz t R (.slice a2 KS.length c2) (.slice b2 VS.length d2)
        have K2 := HK.out.st5 M kz t R (.slice a2 KS.length c2) (.slice b2 VS.length d2) (by omega)
        unfold st5 at M2 R2 Q2 K2
        refine ⟨?_, by simp [intOf]; omega⟩
        exact ⟨j - 1, kz, t, R, KS, VS, a2, b2, c2, d2, q2, by rw [pred_int (by omega)], by omega, ⟨M2, R2⟩, Q2, K2, ba2.out, bb2.out, ht8, by omega, by omega, by omega⟩
      exact AllReadyH.nil
    · obtain rfl : j = 0 := by omega
      have R5 := RW.st5 HQ.out HM.out.rw (k' := k) (s' := s) (r' := r) (v' := .slice a1 ks.length c1) (u' := .slice b1 vs.length d1)
      have K5 := HK.out.st5 w.heap.size k s r (.slice a1 ks.length c1) (.slice b1 vs.length d1) (Nat.le_refl _)
      have P5 := Box5.cells (Box5.st5 HQ.out (k' := k) (s' := s) (r' := r) (v' := .slice a1 ks.length c1) (u' := .slice b1 vs.length d1))
      obtain ⟨x0, x1, x2, x3, x4⟩ := HM.out.cl
      obtain ⟨y0, y1, y2, y3, y4⟩ := Box5.cells HQ.out
      have fQ := Box5.frozen HQ.out
      have lM := HM.out.lt
      have lQ2 := HQ.out.lt
      have HR5 := hid R5
      have HK5 := hid K5
      have HP5 := hid P5
      clear R5 K5 P5
      go_wp2_with fail
      obtain ⟨p0, p1, p2, p3, p4⟩ := HP5.out
      unfold st5 at p0 p1 p2 p3 p4
      refine bodyPost_ret (v := .agg #[.int .i64 k, .int .i64 s, .int .i64 r, .slice a1 ks.length c1, .slice b1 vs.length d1]) (by simp [results, Try.results55, go_sem, p0, p1, p2, p3, p4]) rfl ?_
      exact ⟨k, s, r, ks, vs, a1, b1, c1, d1, q, rfl, HR5.out, ba1.out, bb1.out, hs, by omega, by omega, by omega, HK5.out⟩
end Go.Proofs.Ytkaekiodjjhjkaa.G
