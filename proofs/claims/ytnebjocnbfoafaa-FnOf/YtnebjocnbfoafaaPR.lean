/- Contracts of the draws: a range. -/
import Derived.Test.YtnebjocnbfoafaaPQ
import Derived.Test.YtnebjocnbfoafaaRR
import Derived.Test.YtnebjocnbfoafaaRO
import Derived.Test.YtnebjocnbfoafaaLC
import Derived.Deep.DeepCutAuto
namespace Go.Proofs.Ytnebjocnbfoafaa
open Go.RowKit
set_option linter.unusedVariables false
set_option linter.unusedSimpArgs false

set_option maxRecDepth 100000 in
set_option maxHeartbeats 1000000 in
theorem c_l2All (w : World) :
    Calls Try.prog 37 #[] w fun e w' => e = .returned (rv 0 4294967295 0 4294967295) ∧ Below w.heap.size w w' := by
  go_enter Try.func37, Try.ntmps37
  go_wp2_with (go_at_call 40; refine (c_l2Top _).mono ?_; rintro e w' ⟨rfl, rfl⟩)
  refine bodyPost_ret (v := rv 0 4294967295 0 4294967295) (by simp [results, Try.results37, go_sem]) rfl ⟨rfl, ?_⟩
  repeat (first | exact (Below.refl _ _).alloc (Nat.le_refl _) _ | refine Below.setCell ?_ (by simp) _)

theorem ends_ok {lo hi : Nat} (h : lo ≤ hi) (h2 : hi ≤ 4294967295) : OkN lo hi 0 4294967295 := by
  constructor <;> first | omega | simp

theorem ends_of {lo hi : Nat} (h : lo ≤ hi) (h2 : hi ≤ 4294967295) : OfN lo hi 0 4294967295 lo := by
  refine ⟨Nat.le_refl _, h, ?_⟩
  rw [has_bit (by omega) (by omega)]
  intro i hi
  have e : (4294967295 : Nat).testBit i = true := by
    have := top_bit i
    rw [show top = 4294967295 from rfl] at this
    simp [this, hi]
  simp [e]

theorem one_ok {v : Nat} (h : v ≤ 4294967295) : OkN v v v 0 := by
  constructor <;> first | omega | simp
theorem one_of_n {v : Nat} (h : v ≤ 4294967295) : OfN v v v 0 v := by
  refine ⟨Nat.le_refl _, Nat.le_refl _, ?_⟩
  rw [has_bit h h]
  intro i hi
  simp
theorem c_joinOne {lo hi b o n v : Nat} (w : World) (h : OkN lo hi b o) (hn : OfN lo hi b o n) (hv : v ≤ 4294967295) :
    Calls Try.prog 36 #[rv lo hi b o, rv v v v 0] w fun e w' => (∃ x y z u m : Nat, e = .returned (rv x y z u) ∧ OkN x y z u ∧ OfN x y z u m) ∧ Below w.heap.size w w' := by
  refine (c_l2Join lo hi b o v v v 0 w h (one_ok hv)).mono ?_
  rintro e w' ⟨rfl, hb⟩
  have J := join_ok h (one_ok hv)
  have M := join_of h (one_ok hv) hn
  exact ⟨⟨_, _, _, _, n, rfl, tidy_ok J M, tidy_of J M⟩, hb⟩

theorem open_ok {A O : Nat} (hA : A ≤ 4294967295) (hO : O ≤ 4294967295) : OkN 0 4294967295 (A &&& notB O) O := by
  refine ⟨by omega, by omega, and_le _ hA, hO, ?_⟩
  apply Nat.eq_of_testBit_eq
  intro i
  rw [Nat.testBit_and, Nat.testBit_and, not_bit]
  by_cases hi : i < 32
  · simp [hi]
  · simp [high_bit hO hi]
theorem open_of {A O : Nat} (hA : A ≤ 4294967295) (hO : O ≤ 4294967295) : OfN 0 4294967295 (A &&& notB O) O A := by
  refine ⟨by omega, hA, ?_⟩
  simp [hasN]

set_option maxRecDepth 100000 in
set_option maxHeartbeats 1000000 in
theorem c_l2Ends (lo hi : Nat) (w : World) (h : lo ≤ hi) (h2 : hi ≤ 4294967295) :
    Calls Try.prog 38 #[.int .i64 lo, .int .i64 hi] w fun e w' => (∃ x y z u : Nat, e = .returned (rv x y z u) ∧ OkN x y z u) ∧ Below w.heap.size w w' := by
  have T := hid (fun w => c_l2Tidy lo hi 0 4294967295 w (ends_ok h h2))
  have K := hid (tidy_ok (ends_ok h h2) (ends_of h h2))
  go_enter Try.func38, Try.ntmps38
  go_wp2_with (go_at_call 40; refine (c_l2Top _).mono ?_; rintro e w' ⟨rfl, rfl⟩)
  refine (T.out _).mono ?_
  rintro e w1 ⟨rfl, hb1⟩
  have q1 := (RBox.new w 0 0 0 0).below hb1
  have bel1 : Below w.heap.size w w1 := ((Below.refl _ _).alloc (Nat.le_refl _) _).trans (hb1.mono (by simp))
  obtain ⟨g0, g1, g2, g3⟩ := RBox.box q1
  have fq := RBox.frozen q1
  have P5 := hid (st4_new w w1 (tLo lo hi 0) (tHi lo hi 0 4294967295) (tB lo hi 0) (tO lo hi 4294967295) q1 bel1)
  clear q1 bel1 hb1 T
  generalize tLo lo hi 0 = x1 at *
  generalize tHi lo hi 0 4294967295 = x2 at *
  generalize tB lo hi 0 = x3 at *
  generalize tO lo hi 4294967295 = x4 at *
  go_wp2_with fail
  obtain ⟨⟨p0, p1, p2, p3⟩, B5⟩ := P5.out
  unfold st4 at p0 p1 p2 p3
  exact bodyPost_ret (v := rv x1 x2 x3 x4) (by simp [results, Try.results38, go_sem, p0, p1, p2, p3]) rfl ⟨⟨x1, x2, x3, x4, rfl, K.out⟩, B5⟩

theorem int_pred {n : Nat} (h : 0 < n) : (Value.int .i64 ((n : Int) - 1)) = .int .i64 ((n - 1 : Nat) : Int) := by congr 1; omega
theorem round_left {q1 q2 n p : Nat} (h1 : q1 + 3 * n ≤ p + 20) (h2 : q2 ≤ q1 + 3) (h : 0 < n) : q2 + 3 * (n - 1) ≤ p + 20 := by omega

/-- What a round of the joining leaves. -/
def RoundR (w0 w : World) (B : Nat) (a : Option Addr) (len cap p X : Nat) (t : Value) (wr : World) : Prop :=
  ∃ (n q lo hi b o m : Nat), q + 3 * n ≤ p + 20 ∧ t = .int .i64 n ∧ OkN lo hi b o ∧ OfN lo hi b o m ∧ RBox wr X lo hi b o ∧ RBox wr w.heap.size 0 0 0 0 ∧ K3 w0 w wr B a len cap q

set_option maxRecDepth 100000 in
set_option maxHeartbeats 4000000 in
theorem range_k {w0 w : World} {B : Nat} {a : Option Addr} {len cap p : Nat} (h : RS w0 w B a len cap p) (hp : p ≤ 800000) :
    Calls Try.prog 15 #[.pointer (some ⟨B, 0, none⟩)] w fun e w' => ∃ (lo hi b o v q : Nat), e = .returned (.tuple #[rv lo hi b o, .int .i64 v]) ∧ OkN lo hi b o ∧ v ≤ 4294967295 ∧ q ≤ p + 100 ∧ K3 w0 w w' B a len cap q := by
  have H0 := hid ((K3.start h).alloc (.cells #[.int .i64 0, .int .i64 0, .int .i64 0, .int .i64 0] 24))
  have Q0 := hid (RBox.new w 0 0 0 0)
  have hB : B < w.heap.size := h.lt
  clear h
  go_enter Try.func15, Try.ntmps15
  go_wp2_with fail
  refine (number_k H0.out.rs (by omega)).mono ?_
  rintro e w1 ⟨A, q, rfl, hA, hq, k1⟩
  have H1 := hid (H0.out.draw k1)
  have Q1 := hid (Q0.out.kept (by omega) k1)
  clear k1 H0 Q0
  go_wp2_with fail
  refine (c_l2One A w1).mono ?_
  rintro e w2 ⟨rfl, b2⟩
  have H2 := hid ((H1.out.below b2).alloc (cellsR4 A A A 0))
  have Q2 := hid ((Q1.out.below b2).alloc (cellsR4 A A A 0))
  have hX0 := RBox.lt (Q1.out.below b2)
  have X2 := hid (RBox.new w2 A A A 0)
  clear b2 H1 Q1
  go_wp2_with fail
  refine (pick_k H2.out.rs (by omega) 4 (by omega) (by omega)).mono ?_
  generalize w2.heap.size = X at *
  rintro e w3 ⟨m, rfl, hm, k3⟩
  have H3 := hid (H2.out.draw k3)
  have Q3 := hid (Q2.out.kept (by omega) k3)
  have X3 := hid (X2.out.kept (by omega) k3)
  clear k3 H2 Q2 X2 w2
  have Hst := hid (show RoundR w0 w B a len cap p X (.int .i64 m) w3 from ⟨m, _, A, A, A, 0, A, by omega, rfl, one_ok hA, one_of_n hA, X3.out, Q3.out, H3.out⟩)
  clear H3 Q3 X3
  go_wp2_with fail
  go_loopw [6] (fun t wr => RoundR w0 w B a len cap p X t wr) (fun t _ => (intOf t).toNat)
  case atStart => exact Hst.out
  case round =>
    obtain ⟨n, q1, lo, hi, b, o, mm, hq1, rfl, hok, hof, hx, hqq, hk⟩ := hrel
    have HX := hid hx
    have HQ := hid hqq
    have HK := hid hk
    clear hx hqq hk Hst
    by_cases hn : (n : Int) > 0
    · go_wp2_with fail
      refine wp_region_held_drew (S := (fun _ => True)) (by kernel_rfl) (trivial) (fun hHeld => ?_)
      have hX := hid (RBox.drew HX.out)
      have hQ := hid (RBox.drew HQ.out)
      have hK3 := hid (K3.drew HK.out)
      clear HX HQ HK
      refine wpAnyH_take (i := 1) (oi := ?oi1) (v := ?v1) (fuel := 5) ?hi1 ?hs1 ?hf1 ?hr1 ?hq1 (Or.inl ⟨?hw1, ?hy1⟩) hHeld ?rest1
      case hi1 => rw [List.getElem?_toArray]; rfl
      case hq1 => exact fun _ _ _ h => h
      case hs1 | hf1 | hr1 => kernel_rfl
      case hw1 => rfl
      case hy1 => (intro w1 hSw; (try dsimp only at hSw); go_simp; try with_reducible rfl)
      (try simp only [Act.put, List.setIfInBounds_toArray, List.set_cons_zero, List.set_cons_succ])
      refine wpAnyH_ready (fuel := 4) (rs := [0, 2]) (by kernel_rfl) (by simp) ?_
      refine AllReadyH.cons (o := ?oi2) ?hi2 (fun K hK => ?st2) ?mo2
      case hi2 => rw [List.getElem?_toArray]; rfl
      case st2 =>
        obtain ⟨g0, g1, g2, g3⟩ := RBox.box hX.out
        go_simp
        clear g0 g1 g2 g3
        refine hK.out _ _ ?hS2 (fun hHeld => ?re2)
        case hS2 => trivial
        clear hK K
        (try simp only [Act.put, List.setIfInBounds_toArray, List.set_cons_zero, List.set_cons_succ])
        refine wpAnyH_ready (fuel := 3) (rs := [2]) (by kernel_rfl) (by simp) ?_
        refine AllReadyH.cons (o := ?oi3) ?hi3 (fun K hK => ?st3) AllReadyH.nil
        case hi3 => rw [List.getElem?_toArray]; rfl
        go_simp
        refine (number_k hK3.out.rs (by omega)).mono ?_
        rintro e wr2 ⟨v, q2, rfl, hv, hq2, k2⟩
        have X2 := hid (hX.out.kept (by omega) k2)
        have Q2 := hid (hQ.out.kept (by omega) k2)
        have K2 := hid (hK3.out.draw k2)
        clear k2 hX hQ hK3
        have hX := X2
        have hQ := Q2
        have hK3 := K2
        clear X2 Q2 K2
        go_wp2_with fail
        refine hK.out _ _ ?hS3 (fun hHeld => ?re3)
        case hS3 => trivial
        clear hK K
        (try simp only [Act.put, List.setIfInBounds_toArray, List.set_cons_zero, List.set_cons_succ])
        refine wpAnyH_ready (fuel := 2) (rs := [3]) (by kernel_rfl) (by simp) ?_
        refine AllReadyH.cons (o := ?oi4) ?hi4 (fun K hK => ?st4) AllReadyH.nil
        case hi4 => rw [List.getElem?_toArray]; rfl
        go_simp
        refine (c_l2One v _).mono ?_
        rintro e wr3 ⟨rfl, b3⟩
        have X2 := hid (hX.out.below b3)
        have Q2 := hid (hQ.out.below b3)
        have K2 := hid (hK3.out.below b3)
        clear b3 hX hQ hK3
        have hX := X2
        have hQ := Q2
        have hK3 := K2
        clear X2 Q2 K2
        go_wp2_with fail
        refine hK.out _ _ ?hS4 (fun hHeld => ?re4)
        case hS4 => trivial
        clear hK K
        (try simp only [Act.put, List.setIfInBounds_toArray, List.set_cons_zero, List.set_cons_succ])
        refine wpAnyH_ready (fuel := 1) (rs := [4]) (by kernel_rfl) (by simp) ?_
        refine AllReadyH.cons (o := ?oi5) ?hi5 (fun K hK => ?st5) AllReadyH.nil
        case hi5 => rw [List.getElem?_toArray]; rfl
        go_simp
        refine (c_joinOne _ hok hof hv).mono ?_
        rintro e wr4 ⟨⟨x1, x2, x3, x4, m1, rfl, hok1, hof1⟩, b4⟩
        have X2 := hid (hX.out.below b4)
        have Q2 := hid (hQ.out.below b4)
        have K2 := hid (hK3.out.below b4)
        clear b4 hX hQ hK3
        have hX := X2
        have hQ := Q2
        have hK3 := K2
        clear X2 Q2 K2
        go_wp2_with fail
        refine hK.out _ _ ?hS5 (fun hHeld => ?re5)
        case hS5 => trivial
        clear hK K
        (try simp only [Act.put, List.setIfInBounds_toArray, List.set_cons_zero, List.set_cons_succ])
        refine wpAnyH_ready (fuel := 0) (rs := [5]) (by kernel_rfl) (by simp) ?_
        refine AllReadyH.cons (o := ?oi6) ?hi6 (fun K hK => ?st6) AllReadyH.nil
        case hi6 => rw [List.getElem?_toArray]; rfl
        obtain ⟨g0, g1, g2, g3⟩ := RBox.box hX.out
        have fq := RBox.frozen hX.out
        go_simp
        clear g0 g1 g2 g3 fq
        refine hK.out _ _ ?hS6 (fun hHeld => ?re6)
        case hS6 => trivial
        clear hK K
        (try simp only [Act.put, List.setIfInBounds_toArray, List.set_cons_zero, List.set_cons_succ])
        refine wpAnyH_done (by kernel_rfl) ?_ _
        have X5 := hid (hX.out.st4 (x' := (x1 : Nat)) (y' := (x2 : Nat)) (z' := (x3 : Nat)) (u' := (x4 : Nat)))
        have Q5 := hid (hQ.out.st4o (k := X) (by omega) (x1 : Nat) (x2 : Nat) (x3 : Nat) (x4 : Nat))
        have K5 := hid (hK3.out.st4 X (x1 : Nat) (x2 : Nat) (x3 : Nat) (x4 : Nat) (by omega))
        have ec : (Value.int .i64 ((n : Int) - 1)) = .int .i64 ((n - 1 : Nat) : Int) := int_pred (by omega)
        have eq2 : q2 + 3 * (n - 1) ≤ p + 20 := round_left hq1 hq2 (by omega)
        clear hHeld hX hQ hK3
        go_wp2_with fail
        refine ⟨?_, by simp [intOf]; omega⟩
        have X6 := X5.out
        have Q6 := Q5.out
        have K6 := K5.out
        clear X5 Q5 K5
        unfold st4 at X6 Q6 K6
        rw [ec]
        generalize (((wr4.setCell _ _).setCell _ _).setCell _ _).setCell _ _ = w9 at *
        exact ⟨n - 1, q2, x1, x2, x3, x4, m1, eq2, rfl, hok1, hof1, X6, Q6, K6⟩
      refine AllReadyH.cons (o := ?oi7) ?hi7 (fun K hK => ?st7) ?mo7
      case hi7 => rw [List.getElem?_toArray]; rfl
      case st7 =>
        go_simp
        refine (number_k hK3.out.rs (by omega)).mono ?_
        rintro e wr2 ⟨v, q2, rfl, hv, hq2, k2⟩
        have X2 := hid (hX.out.kept (by omega) k2)
        have Q2 := hid (hQ.out.kept (by omega) k2)
        have K2 := hid (hK3.out.draw k2)
        clear k2 hX hQ hK3
        have hX := X2
        have hQ := Q2
        have hK3 := K2
        clear X2 Q2 K2
        go_wp2_with fail
        refine hK.out _ _ ?hS7 (fun hHeld => ?re7)
        case hS7 => trivial
        clear hK K
        (try simp only [Act.put, List.setIfInBounds_toArray, List.set_cons_zero, List.set_cons_succ])
        refine wpAnyH_ready (fuel := 3) (rs := [0, 3]) (by kernel_rfl) (by simp) ?_
        refine AllReadyH.cons (o := ?oi8) ?hi8 (fun K hK => ?st8) ?mo8
        case hi8 => rw [List.getElem?_toArray]; rfl
        case st8 =>
          obtain ⟨g0, g1, g2, g3⟩ := RBox.box hX.out
          go_simp
          clear g0 g1 g2 g3
          refine hK.out _ _ ?hS8 (fun hHeld => ?re8)
          case hS8 => trivial
          clear hK K
          (try simp only [Act.put, List.setIfInBounds_toArray, List.set_cons_zero, List.set_cons_succ])
          refine wpAnyH_ready (fuel := 2) (rs := [3]) (by kernel_rfl) (by simp) ?_
          refine AllReadyH.cons (o := ?oi9) ?hi9 (fun K hK => ?st9) AllReadyH.nil
          case hi9 => rw [List.getElem?_toArray]; rfl
          go_simp
          refine (c_l2One v _).mono ?_
          rintro e wr3 ⟨rfl, b3⟩
          have X2 := hid (hX.out.below b3)
          have Q2 := hid (hQ.out.below b3)
          have K2 := hid (hK3.out.below b3)
          clear b3 hX hQ hK3
          have hX := X2
          have hQ := Q2
          have hK3 := K2
          clear X2 Q2 K2
          go_wp2_with fail
          refine hK.out _ _ ?hS9 (fun hHeld => ?re9)
          case hS9 => trivial
          clear hK K
          (try simp only [Act.put, List.setIfInBounds_toArray, List.set_cons_zero, List.set_cons_succ])
          refine wpAnyH_ready (fuel := 1) (rs := [4]) (by kernel_rfl) (by simp) ?_
          refine AllReadyH.cons (o := ?oi10) ?hi10 (fun K hK => ?st10) AllReadyH.nil
          case hi10 => rw [List.getElem?_toArray]; rfl
          go_simp
          refine (c_joinOne _ hok hof hv).mono ?_
          rintro e wr4 ⟨⟨x1, x2, x3, x4, m1, rfl, hok1, hof1⟩, b4⟩
          have X2 := hid (hX.out.below b4)
          have Q2 := hid (hQ.out.below b4)
          have K2 := hid (hK3.out.below b4)
          clear b4 hX hQ hK3
          have hX := X2
          have hQ := Q2
          have hK3 := K2
          clear X2 Q2 K2
          go_wp2_with fail
          refine hK.out _ _ ?hS10 (fun hHeld => ?re10)
          case hS10 => trivial
          clear hK K
          (try simp only [Act.put, List.setIfInBounds_toArray, List.set_cons_zero, List.set_cons_succ])
          refine wpAnyH_ready (fuel := 0) (rs := [5]) (by kernel_rfl) (by simp) ?_
          refine AllReadyH.cons (o := ?oi11) ?hi11 (fun K hK => ?st11) AllReadyH.nil
          case hi11 => rw [List.getElem?_toArray]; rfl
          obtain ⟨g0, g1, g2, g3⟩ := RBox.box hX.out
          have fq := RBox.frozen hX.out
          go_simp
          clear g0 g1 g2 g3 fq
          refine hK.out _ _ ?hS11 (fun hHeld => ?re11)
          case hS11 => trivial
          clear hK K
          (try simp only [Act.put, List.setIfInBounds_toArray, List.set_cons_zero, List.set_cons_succ])
          refine wpAnyH_done (by kernel_rfl) ?_ _
          have X5 := hid (hX.out.st4 (x' := (x1 : Nat)) (y' := (x2 : Nat)) (z' := (x3 : Nat)) (u' := (x4 : Nat)))
          have Q5 := hid (hQ.out.st4o (k := X) (by omega) (x1 : Nat) (x2 : Nat) (x3 : Nat) (x4 : Nat))
          have K5 := hid (hK3.out.st4 X (x1 : Nat) (x2 : Nat) (x3 : Nat) (x4 : Nat) (by omega))
          have ec : (Value.int .i64 ((n : Int) - 1)) = .int .i64 ((n - 1 : Nat) : Int) := int_pred (by omega)
          have eq2 : q2 + 3 * (n - 1) ≤ p + 20 := round_left hq1 hq2 (by omega)
          clear hHeld hX hQ hK3
          go_wp2_with fail
          refine ⟨?_, by simp [intOf]; omega⟩
          have X6 := X5.out
          have Q6 := Q5.out
          have K6 := K5.out
          clear X5 Q5 K5
          unfold st4 at X6 Q6 K6
          rw [ec]
          generalize (((wr4.setCell _ _).setCell _ _).setCell _ _).setCell _ _ = w9 at *
          exact ⟨n - 1, q2, x1, x2, x3, x4, m1, eq2, rfl, hok1, hof1, X6, Q6, K6⟩
        refine AllReadyH.cons (o := ?oi12) ?hi12 (fun K hK => ?st12) ?mo12
        case hi12 => rw [List.getElem?_toArray]; rfl
        case st12 =>
          go_simp
          refine (c_l2One v _).mono ?_
          rintro e wr3 ⟨rfl, b3⟩
          have X2 := hid (hX.out.below b3)
          have Q2 := hid (hQ.out.below b3)
          have K2 := hid (hK3.out.below b3)
          clear b3 hX hQ hK3
          have hX := X2
          have hQ := Q2
          have hK3 := K2
          clear X2 Q2 K2
          go_wp2_with fail
          refine hK.out _ _ ?hS12 (fun hHeld => ?re12)
          case hS12 => trivial
          clear hK K
          (try simp only [Act.put, List.setIfInBounds_toArray, List.set_cons_zero, List.set_cons_succ])
          refine wpAnyH_ready (fuel := 2) (rs := [0]) (by kernel_rfl) (by simp) ?_
          refine AllReadyH.cons (o := ?oi13) ?hi13 (fun K hK => ?st13) AllReadyH.nil
          case hi13 => rw [List.getElem?_toArray]; rfl
          obtain ⟨g0, g1, g2, g3⟩ := RBox.box hX.out
          go_simp
          clear g0 g1 g2 g3
          refine hK.out _ _ ?hS13 (fun hHeld => ?re13)
          case hS13 => trivial
          clear hK K
          (try simp only [Act.put, List.setIfInBounds_toArray, List.set_cons_zero, List.set_cons_succ])
          refine wpAnyH_ready (fuel := 1) (rs := [4]) (by kernel_rfl) (by simp) ?_
          refine AllReadyH.cons (o := ?oi14) ?hi14 (fun K hK => ?st14) AllReadyH.nil
          case hi14 => rw [List.getElem?_toArray]; rfl
          go_simp
          refine (c_joinOne _ hok hof hv).mono ?_
          rintro e wr4 ⟨⟨x1, x2, x3, x4, m1, rfl, hok1, hof1⟩, b4⟩
          have X2 := hid (hX.out.below b4)
          have Q2 := hid (hQ.out.below b4)
          have K2 := hid (hK3.out.below b4)
          clear b4 hX hQ hK3
          have hX := X2
          have hQ := Q2
          have hK3 := K2
          clear X2 Q2 K2
          go_wp2_with fail
          refine hK.out _ _ ?hS14 (fun hHeld => ?re14)
          case hS14 => trivial
          clear hK K
          (try simp only [Act.put, List.setIfInBounds_toArray, List.set_cons_zero, List.set_cons_succ])
          refine wpAnyH_ready (fuel := 0) (rs := [5]) (by kernel_rfl) (by simp) ?_
          refine AllReadyH.cons (o := ?oi15) ?hi15 (fun K hK => ?st15) AllReadyH.nil
          case hi15 => rw [List.getElem?_toArray]; rfl
          obtain ⟨g0, g1, g2, g3⟩ := RBox.box hX.out
          have fq := RBox.frozen hX.out
          go_simp
          clear g0 g1 g2 g3 fq
          refine hK.out _ _ ?hS15 (fun hHeld => ?re15)
          case hS15 => trivial
          clear hK K
          (try simp only [Act.put, List.setIfInBounds_toArray, List.set_cons_zero, List.set_cons_succ])
          refine wpAnyH_done (by kernel_rfl) ?_ _
          have X5 := hid (hX.out.st4 (x' := (x1 : Nat)) (y' := (x2 : Nat)) (z' := (x3 : Nat)) (u' := (x4 : Nat)))
          have Q5 := hid (hQ.out.st4o (k := X) (by omega) (x1 : Nat) (x2 : Nat) (x3 : Nat) (x4 : Nat))
          have K5 := hid (hK3.out.st4 X (x1 : Nat) (x2 : Nat) (x3 : Nat) (x4 : Nat) (by omega))
          have ec : (Value.int .i64 ((n : Int) - 1)) = .int .i64 ((n - 1 : Nat) : Int) := int_pred (by omega)
          have eq2 : q2 + 3 * (n - 1) ≤ p + 20 := round_left hq1 hq2 (by omega)
          clear hHeld hX hQ hK3
          go_wp2_with fail
          refine ⟨?_, by simp [intOf]; omega⟩
          have X6 := X5.out
          have Q6 := Q5.out
          have K6 := K5.out
          clear X5 Q5 K5
          unfold st4 at X6 Q6 K6
          rw [ec]
          generalize (((wr4.setCell _ _).setCell _ _).setCell _ _).setCell _ _ = w9 at *
          exact ⟨n - 1, q2, x1, x2, x3, x4, m1, eq2, rfl, hok1, hof1, X6, Q6, K6⟩
        exact AllReadyH.nil
      exact AllReadyH.nil
    · go_wp2_with fail
      refine (pick_k HK.out.rs (by omega) 6 (by omega) (by omega)).mono ?_
      rintro e w5 ⟨kk, rfl, hkk, k5⟩
      have H5 := hid (HK.out.draw k5)
      have Q5 := hid (HQ.out.kept (by omega) k5)
      have X5 := hid (HX.out.kept (by omega) k5)
      clear k5 HK HQ HX hof
      by_cases c0 : kk = 0
      · subst c0
        go_wp2_with fail
        refine (c_l2All _).mono ?_
        rintro e w6 ⟨rfl, b6⟩
        have HK := hid (H5.out.below b6)
        have HQ := hid (Q5.out.below b6)
        have HX := hid (X5.out.below b6)
        clear b6 H5 Q5 X5
        have fx := RBox.frozen HX.out
        obtain ⟨g0, g1, g2, g3⟩ := RBox.box HX.out
        have X6 := HX.out.st4 (x' := 0) (y' := 4294967295) (z' := 0) (u' := 4294967295)
        have Q6 := HQ.out.st4o (k := X) (by omega) (0) (4294967295) (0) (4294967295)
        have K6 := hid (HK.out.st4 X (0) (4294967295) (0) (4294967295) (by omega))
        have fq := RBox.frozen Q6
        obtain ⟨y0, y1, y2, y3⟩ := RBox.box X6
        obtain ⟨q0, q1', q2, q3⟩ := RBox.box Q6
        have P7 := hid (RBox.box (Q6.st4 (x' := 0) (y' := 4294967295) (z' := 0) (u' := 4294967295)))
        have K7 := hid (K6.out.st4 w.heap.size (0) (4294967295) (0) (4294967295) (Nat.le_refl _))
        clear X6 Q6 K6 HX HQ HK
        unfold st4 at fq y0 y1 y2 y3 q0 q1' q2 q3
        go_wp2_with fail
        obtain ⟨p0, p1, p2, p3⟩ := P7.out
        unfold st4 at p0 p1 p2 p3
        refine bodyPost_ret (v := .tuple #[rv (0) (4294967295) (0) (4294967295), .int .i64 A]) (by simp [results, Try.results15, go_sem, p0, p1, p2, p3]) rfl ⟨0, 4294967295, 0, 4294967295, A, _, rfl, (ends_ok (by omega) (by omega)), hA, by omega, K7.out⟩
      by_cases c1 : kk = 1
      · subst c1
        go_wp2_with fail
        refine (number_k H5.out.rs (by omega)).mono ?_
        rintro e w6 ⟨A2, q6, rfl, hA2, hq6, k6⟩
        have H6 := hid (H5.out.draw k6)
        have Q6 := hid (Q5.out.kept (by omega) k6)
        have X6 := hid (X5.out.kept (by omega) k6)
        clear k6 H5 Q5 X5
        by_cases hlt : (A2 : Int) < A
        · go_wp2_with fail
          refine (c_l2Ends A2 A _ (by omega) hA).mono ?_
          rintro e w7 ⟨⟨x1, x2, x3, x4, rfl, hok7⟩, b7⟩
          have HK := hid (H6.out.below b7)
          have HQ := hid (Q6.out.below b7)
          have HX := hid (X6.out.below b7)
          clear b7 H6 Q6 X6
          have fx := RBox.frozen HX.out
          obtain ⟨g0, g1, g2, g3⟩ := RBox.box HX.out
          have X6 := HX.out.st4 (x' := (x1 : Nat)) (y' := (x2 : Nat)) (z' := (x3 : Nat)) (u' := (x4 : Nat))
          have Q6 := HQ.out.st4o (k := X) (by omega) ((x1 : Nat)) ((x2 : Nat)) ((x3 : Nat)) ((x4 : Nat))
          have K6 := hid (HK.out.st4 X ((x1 : Nat)) ((x2 : Nat)) ((x3 : Nat)) ((x4 : Nat)) (by omega))
          have fq := RBox.frozen Q6
          obtain ⟨y0, y1, y2, y3⟩ := RBox.box X6
          obtain ⟨q0, q1', q2, q3⟩ := RBox.box Q6
          have P7 := hid (RBox.box (Q6.st4 (x' := (x1 : Nat)) (y' := (x2 : Nat)) (z' := (x3 : Nat)) (u' := (x4 : Nat))))
          have K7 := hid (K6.out.st4 w.heap.size ((x1 : Nat)) ((x2 : Nat)) ((x3 : Nat)) ((x4 : Nat)) (Nat.le_refl _))
          clear X6 Q6 K6 HX HQ HK
          unfold st4 at fq y0 y1 y2 y3 q0 q1' q2 q3
          go_wp2_with fail
          obtain ⟨p0, p1, p2, p3⟩ := P7.out
          unfold st4 at p0 p1 p2 p3
          refine bodyPost_ret (v := .tuple #[rv ((x1 : Nat)) ((x2 : Nat)) ((x3 : Nat)) ((x4 : Nat)), .int .i64 A]) (by simp [results, Try.results15, go_sem, p0, p1, p2, p3]) rfl ⟨(x1 : Nat), (x2 : Nat), (x3 : Nat), (x4 : Nat), A, _, rfl, hok7, hA, by omega, K7.out⟩
        · go_wp2_with fail
          refine (c_l2Ends A A2 _ (by omega) hA2).mono ?_
          rintro e w7 ⟨⟨x1, x2, x3, x4, rfl, hok7⟩, b7⟩
          have HK := hid (H6.out.below b7)
          have HQ := hid (Q6.out.below b7)
          have HX := hid (X6.out.below b7)
          clear b7 H6 Q6 X6
          have fx := RBox.frozen HX.out
          obtain ⟨g0, g1, g2, g3⟩ := RBox.box HX.out
          have X6 := HX.out.st4 (x' := (x1 : Nat)) (y' := (x2 : Nat)) (z' := (x3 : Nat)) (u' := (x4 : Nat))
          have Q6 := HQ.out.st4o (k := X) (by omega) ((x1 : Nat)) ((x2 : Nat)) ((x3 : Nat)) ((x4 : Nat))
          have K6 := hid (HK.out.st4 X ((x1 : Nat)) ((x2 : Nat)) ((x3 : Nat)) ((x4 : Nat)) (by omega))
          have fq := RBox.frozen Q6
          obtain ⟨y0, y1, y2, y3⟩ := RBox.box X6
          obtain ⟨q0, q1', q2, q3⟩ := RBox.box Q6
          have P7 := hid (RBox.box (Q6.st4 (x' := (x1 : Nat)) (y' := (x2 : Nat)) (z' := (x3 : Nat)) (u' := (x4 : Nat))))
          have K7 := hid (K6.out.st4 w.heap.size ((x1 : Nat)) ((x2 : Nat)) ((x3 : Nat)) ((x4 : Nat)) (Nat.le_refl _))
          clear X6 Q6 K6 HX HQ HK
          unfold st4 at fq y0 y1 y2 y3 q0 q1' q2 q3
          go_wp2_with fail
          obtain ⟨p0, p1, p2, p3⟩ := P7.out
          unfold st4 at p0 p1 p2 p3
          refine bodyPost_ret (v := .tuple #[rv ((x1 : Nat)) ((x2 : Nat)) ((x3 : Nat)) ((x4 : Nat)), .int .i64 A]) (by simp [results, Try.results15, go_sem, p0, p1, p2, p3]) rfl ⟨(x1 : Nat), (x2 : Nat), (x3 : Nat), (x4 : Nat), A, _, rfl, hok7, hA, by omega, K7.out⟩
      by_cases c2 : kk = 2
      · subst c2
        go_wp2_with fail
        refine (imm_k H5.out.rs (by omega)).mono ?_
        rintro e w6 ⟨O, rfl, hO, k6⟩
        have H6 := hid (H5.out.draw k6)
        have Q6 := hid (Q5.out.kept (by omega) k6)
        have X6 := hid (X5.out.kept (by omega) k6)
        clear k6 H5 Q5 X5
        have e1 := xor_top O hO
        have e2 := and_i64 A (notB O) (by omega) (by have := not_le hO; omega)
        have T := hid (fun w => c_l2Tidy 0 4294967295 (A &&& notB O) O w (open_ok hA hO))
        have hok7 := hid (tidy_ok (open_ok hA hO) (open_of hA hO))
        go_wp2_with (go_at_call 40; refine (c_l2Top _).mono ?_; rintro e w' ⟨rfl, rfl⟩)
        refine (T.out _).mono ?_
        rintro e w7 ⟨rfl, b7⟩
        have HK := hid (H6.out.below b7)
        have HQ := hid (Q6.out.below b7)
        have HX := hid (X6.out.below b7)
        clear b7 H6 Q6 X6 T e1 e2
        generalize tLo 0 4294967295 (A &&& notB O) = x1 at *
        generalize tHi 0 4294967295 (A &&& notB O) O = x2 at *
        generalize tB 0 4294967295 (A &&& notB O) = x3 at *
        generalize tO 0 4294967295 O = x4 at *
        have fx := RBox.frozen HX.out
        obtain ⟨g0, g1, g2, g3⟩ := RBox.box HX.out
        have X6 := HX.out.st4 (x' := (x1 : Nat)) (y' := (x2 : Nat)) (z' := (x3 : Nat)) (u' := (x4 : Nat))
        have Q6 := HQ.out.st4o (k := X) (by omega) ((x1 : Nat)) ((x2 : Nat)) ((x3 : Nat)) ((x4 : Nat))
        have K6 := hid (HK.out.st4 X ((x1 : Nat)) ((x2 : Nat)) ((x3 : Nat)) ((x4 : Nat)) (by omega))
        have fq := RBox.frozen Q6
        obtain ⟨y0, y1, y2, y3⟩ := RBox.box X6
        obtain ⟨q0, q1', q2, q3⟩ := RBox.box Q6
        have P7 := hid (RBox.box (Q6.st4 (x' := (x1 : Nat)) (y' := (x2 : Nat)) (z' := (x3 : Nat)) (u' := (x4 : Nat))))
        have K7 := hid (K6.out.st4 w.heap.size ((x1 : Nat)) ((x2 : Nat)) ((x3 : Nat)) ((x4 : Nat)) (Nat.le_refl _))
        clear X6 Q6 K6 HX HQ HK
        unfold st4 at fq y0 y1 y2 y3 q0 q1' q2 q3
        go_wp2_with fail
        obtain ⟨p0, p1, p2, p3⟩ := P7.out
        unfold st4 at p0 p1 p2 p3
        refine bodyPost_ret (v := .tuple #[rv ((x1 : Nat)) ((x2 : Nat)) ((x3 : Nat)) ((x4 : Nat)), .int .i64 A]) (by simp [results, Try.results15, go_sem, p0, p1, p2, p3]) rfl ⟨(x1 : Nat), (x2 : Nat), (x3 : Nat), (x4 : Nat), A, _, rfl, hok7.out, hA, by omega, K7.out⟩
      have d0 : ((kk : Int) == 0) = false := by simp; omega
      have d1 : ((kk : Int) == 1) = false := by simp; omega
      have d2 : ((kk : Int) == 2) = false := by simp; omega
      obtain ⟨y0, y1, y2, y3⟩ := RBox.box X5.out
      obtain ⟨q0, q1', q2, q3⟩ := RBox.box Q5.out
      have fq := RBox.frozen Q5.out
      have P7 := hid (RBox.box (Q5.out.st4 (x' := lo) (y' := hi) (z' := b) (u' := o)))
      have K7 := hid (H5.out.st4 w.heap.size lo hi b o (Nat.le_refl _))
      clear Q5 X5 H5
      go_wp2_with fail
      obtain ⟨p0, p1, p2, p3⟩ := P7.out
      unfold st4 at p0 p1 p2 p3
      refine bodyPost_ret (v := .tuple #[rv lo hi b o, .int .i64 A]) (by simp [results, Try.results15, go_sem, p0, p1, p2, p3]) rfl ⟨lo, hi, b, o, A, _, rfl, hok, hA, by omega, K7.out⟩
end Go.Proofs.Ytnebjocnbfoafaa
