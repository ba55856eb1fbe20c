/- FnForm: a program that can be ends, and leads nowhere beyond. -/
import Derived.Test.YthholhabgdpndaaKF
import Derived.Test.YthholhabgdpndaaIM
namespace Go.Proofs.Ythholhabgdpndaa
open Go.RowKit
set_option linter.unusedVariables false
set_option linter.unusedSimpArgs false


theorem firstBad_all {n : Int} : ∀ (xs : List I6) (k0 : Nat), firstBad n k0 xs = 0 → ∀ k (h : k < xs.length), badN n (k0 + k) xs[k] = 0
  | [], k0, _, k, h => by simp at h
  | x :: xs, k0, h, k, hk => by
    unfold firstBad at h
    by_cases e : badN n k0 x = 0
    · rw [if_pos e] at h
      match k, hk with
      | 0, _ => exact e
      | k + 1, hk =>
        have := firstBad_all xs (k0 + 1) h k (by simpa using hk)
        rw [show k0 + (k + 1) = k0 + 1 + k by omega]
        simpa using this
    · rw [if_neg e] at h
      exact absurd h e
theorem firstBad_none {n : Int} : ∀ (xs : List I6) (k0 : Nat), (∀ k (h : k < xs.length), badN n (k0 + k) xs[k] = 0) → firstBad n k0 xs = 0
  | [], k0, _ => rfl
  | x :: xs, k0, h => by
    unfold firstBad
    have e : badN n k0 x = 0 := h 0 (by simp)
    rw [if_pos e]
    refine firstBad_none xs (k0 + 1) (fun k hk => ?_)
    have := h (k + 1) (by simpa using hk)
    rw [show k0 + (k + 1) = k0 + 1 + k by omega] at this
    simpa using this
theorem form_fine {xs : List I6} (h : formN xs = 0) : (∀ k (h : k < xs.length), badN xs.length k xs[k] = 0) ∧ xs.length ≤ 48 ∧ endsN xs = true := by
  unfold formN at h
  by_cases e : firstBad xs.length 0 xs = 0
  · rw [if_pos e] at h
    by_cases e2 : 48 < xs.length
    · rw [if_pos e2] at h; omega
    · rw [if_neg e2] at h
      refine ⟨fun k hk => ?_, by omega, ?_⟩
      · have := firstBad_all xs 0 e k hk
        rw [Nat.zero_add] at this
        exact this
      · cases e3 : endsN xs
        · rw [e3] at h; simp at h
        · rfl
  · rw [if_neg e] at h
    exact absurd h e
theorem bad0 {n : Int} {k : Nat} {x : I6} (h : badN n k x = 0) : x.ok = true ∧ (jumpsB x.o = true → inB ((k : Int) + 1 + x.f) 0 (n - 1) = true) := by
  unfold badN at h
  cases e : x.ok
  · rw [e] at h; simp at h
  · refine ⟨rfl, fun hj => ?_⟩
    rw [e, hj] at h
    cases e2 : inB ((k : Int) + 1 + x.f) 0 (n - 1)
    · rw [e2] at h; simp at h
    · rfl
theorem bad_more {n : Nat} {k : Nat} {x : I6} (h : badN n k x = 0) : badN ((n + 1 : Nat) : Int) (1 + k) x = 0 := by
  obtain ⟨h1, h2⟩ := bad0 h
  cases hj : jumpsB x.o
  · exact bad_none h1 hj
  · refine bad_place h1 ?_
    have := (inB_iff _ _ _).1 (h2 hj)
    refine (inB_iff _ _ _).2 ?_
    omega
theorem ends_more {x : I6} {xs : List I6} (h : endsN xs = true) : endsN (x :: xs) = true := by
  cases xs with
  | nil => simp [endsN] at h
  | cons y ys => unfold endsN at *; rw [List.getLast?_cons_cons]; exact h
theorem form_more {xs : List I6} (h : formN xs = 0) : formN ((⟨1, 0, (-1), 0, 0, 0⟩ : I6) :: xs) = if 48 < xs.length + 1 then 3 else 0 := by
  obtain ⟨h1, h2, h3⟩ := form_fine h
  have e : firstBad ((((⟨1, 0, (-1), 0, 0, 0⟩ : I6) :: xs).length : Nat) : Int) 0 ((⟨1, 0, (-1), 0, 0, 0⟩ : I6) :: xs) = 0 := by
    refine firstBad_none _ 0 (fun k hk => ?_)
    rw [Nat.zero_add]
    match k, hk with
    | 0, _ =>
      show badN _ 0 (⟨1, 0, (-1), 0, 0, 0⟩ : I6) = 0
      exact bad_none (by decide) (by decide)
    | k + 1, hk =>
      rw [List.getElem_cons_succ, Nat.add_comm k 1]
      exact bad_more (h1 k (by simpa using hk))
  unfold formN
  rw [if_pos e, ends_more h3]
  simp only [List.length_cons, if_true]
theorem row_news {w : World} {b p : Nat} {xs : List I6} (h : InsRow w b p xs) : ∀ j u, (flat xs)[j]? = some u → w.cell? ((⟨b, p, none⟩ : Addr).add j) = some u := by
  intro j u hj
  have hl : j < (flat xs).length := (List.getElem?_eq_some_iff.1 hj).1
  rw [flat_length] at hl
  obtain ⟨k, r, rfl, hr, hk⟩ : ∃ k r, j = k * 6 + r ∧ r < 6 ∧ k < xs.length := ⟨j / 6, j % 6, by omega, by omega, by omega⟩
  obtain ⟨y0, y1, y2, y3, y4, y5⟩ := flat_at xs k hk
  obtain ⟨c0, c1, c2, c3, c4, c5⟩ := h k hk
  rw [Addr.add_lit]
  match r, hr with
  | 0, _ => rw [Nat.add_zero] at hj ⊢; rw [y0] at hj; rw [c0]; exact hj
  | 1, _ => rw [y1] at hj; rw [← Nat.add_assoc, c1]; exact hj
  | 2, _ => rw [y2] at hj; rw [← Nat.add_assoc, c2]; exact hj
  | 3, _ => rw [y3] at hj; rw [← Nat.add_assoc, c3]; exact hj
  | 4, _ => rw [y4] at hj; rw [← Nat.add_assoc, c4]; exact hj
  | 5, _ => rw [y5] at hj; rw [← Nat.add_assoc, c5]; exact hj
  | r + 6, hr => omega
theorem made16 (w : World) (base : Nat) (x : I6) (hb : base ≤ w.heap.size) : (w.alloc (.cells #[.int .i64 x.o, .int .i64 x.d, .int .i64 x.s, .int .i64 x.f, .int .i64 x.i, .int .i64 x.z] 24)).ownsRow base 24 6 (.slice (some ⟨w.heap.size, 0, none⟩) 1 1) 1 (flat [x]) :=
  ⟨rfl, .inr ⟨w.heap.size, 1, _, rfl, hb, World.alloc_heap_new w _, Nat.le_refl _, by unfold maxLen; omega, rfl, rfl⟩⟩
set_option maxRecDepth 100000 in
set_option maxHeartbeats 4000000 in
theorem law_fnForm (w : World) (a : Option Addr) (len cap : Nat) (hc : len ≤ cap) (hs : Src w a len) (hl : cap < 2 ^ 63) :
    Calls Try.prog 7 #[.slice a len cap] w fun e w' => e = .returned (.bool true) ∧ Below w.heap.size w w' := by
  have HS := hid hs
  clear hs
  obtain ⟨i0, hi, hz0, hz1, hz2⟩ := info_parts info25
  go_enter Try.func7, Try.ntmps7
  go_wp2_with fail
  · go_ret
    exact ⟨rfl, Below.refl _ _⟩
  refine (drawForm_w w a len cap hc HS.out hl).mono ?_
  rintro e w0 ⟨⟨xs, x, c, rfl, hxn, hr⟩, hb0⟩
  have HA := hid hr
  have HB := hid hb0
  clear hr hb0 HS
  have hxn' : (xs.length : Int) ≤ 49 := by omega
  go_wp2_with fail
  refine (form_i xs x c _ HA.out (by omega)).mono ?_
  rintro e wi ⟨rfl, b1⟩
  replace HA := hid (HA.out.below b1 (Nat.le_refl _))
  replace HB := hid (HB.out.to b1)
  clear b1
  go_wp2_with fail
  refine (form_s xs x c _ HA.out (by omega)).mono ?_
  rintro e w1 ⟨rfl, b1⟩
  replace HA := hid (HA.out.below b1 (Nat.le_refl _))
  replace HB := hid (HB.out.to b1)
  clear b1
  by_cases hf : formN xs = 0
  · obtain ⟨hall, h48, hends⟩ := form_fine hf
    have hmore := form_more hf
    have hf' : (formN xs != 0) = false := by simp [hf]
    have HF := hid hf
    have HM := hid hmore
    have HAL := hid hall
    rw [hf]
    clear hf hmore hall hf'
    have hne : xs ≠ [] := by rintro rfl; simp [endsN] at hends
    obtain ⟨b, p, rfl, hb, hrow⟩ : ∃ b p, x = some ⟨b, p, none⟩ ∧ b < w1.heap.size ∧ InsRow w1 b p xs := by
      rcases HA.out with h | h
      · exact absurd h hne
      · exact h
    have HRW := hid hrow
    clear hrow HA hends hne
    go_wp2_with fail
    go_loopw [5] (fun i wr => ∃ k : Nat, k ≤ xs.length ∧ i = .int .i64 k ∧ Below w1.heap.size w1 wr) (fun i _ => xs.length - (intOf i).toNat)
    case atStart => exact ⟨0, Nat.zero_le _, rfl, Below.refl _ _⟩
    case round =>
      obtain ⟨k, hk, rfl, hbw⟩ := hrel
      have hzw : b < wr.heap.size := by have := hbw.size; omega
      by_cases hlt : k < xs.length
      · have hlt' : (k : Int) < (xs.length : Int) := by omega
        have hk0 : (0 : Int) ≤ (k : Int) := by omega
        obtain ⟨x, hx⟩ : ∃ x, x = xs[k] := ⟨_, rfl⟩
        have HX : Hid _ := hx
        obtain ⟨h0, h1, h2, h3, h4, h5⟩ := (HRW.out k hlt).below hbw hb
        rw [← hx] at h0 h1 h2 h3 h4 h5
        obtain ⟨hok, hjmp⟩ := bad0 (HAL.out k hlt)
        rw [← hx] at hok hjmp
        clear hx
        have hok2 : insOkB x.o x.d x.s x.f x.i x.z = true := by rw [ok_same]; exact hok
        have hoff := ok_off hok
        clear hok
        by_cases hj : 12 ≤ x.o ∧ x.o ≤ 16
        · have hj2 : jumpsB x.o = true := by
            by_cases e16 : x.o = 16
            · simp [jumpsB, isB, inB, e16]
            · have : inB x.o 12 15 = true := (inB_iff _ _ _).2 (by omega)
              simp [jumpsB, this]
          obtain ⟨hj3, hj4⟩ := (inB_iff _ _ _).1 (hjmp hj2)
          obtain ⟨ha1, ha2⟩ := hj
          clear hjmp hj2
          go_wp2_with fail
          refine (f11 _ _ _ _ _ _ _).mono ?_
          rw [hok2]
          rintro e wa ⟨rfl, hb1⟩
          have hbw1 : Below w1.heap.size w1 wa := hbw.trans (hb1.mono hbw.size)
          have hz1 : b < wa.heap.size := by have := hbw1.size; omega
          obtain ⟨h0, h1, h2, h3, h4, h5⟩ := (HRW.out k hlt).below hbw1 hb
          rw [← HX.out] at h0 h1 h2 h3 h4 h5
          go_wp2_with fail
          go_roundw
          case rel => exact ⟨k + 1, by omega, by go_num, hbw1⟩
          case measure => simp [intOf]; omega
        · clear hjmp
          by_cases h12 : 12 ≤ x.o
          · have h16 : ¬ (x.o ≤ 16) := by omega
            clear hj
            go_wp2_with fail
            refine (f11 _ _ _ _ _ _ _).mono ?_
            rw [hok2]
            rintro e wa ⟨rfl, hb1⟩
            have hbw1 : Below w1.heap.size w1 wa := hbw.trans (hb1.mono hbw.size)
            have hz1 : b < wa.heap.size := by have := hbw1.size; omega
            obtain ⟨h0, h1, h2, h3, h4, h5⟩ := (HRW.out k hlt).below hbw1 hb
            rw [← HX.out] at h0 h1 h2 h3 h4 h5
            go_wp2_with fail
            go_roundw
            case rel => exact ⟨k + 1, by omega, by go_num, hbw1⟩
            case measure => simp [intOf]; omega
          · clear hj
            go_wp2_with fail
            refine (f11 _ _ _ _ _ _ _).mono ?_
            rw [hok2]
            rintro e wa ⟨rfl, hb1⟩
            have hbw1 : Below w1.heap.size w1 wa := hbw.trans (hb1.mono hbw.size)
            have hz1 : b < wa.heap.size := by have := hbw1.size; omega
            obtain ⟨h0, h1, h2, h3, h4, h5⟩ := (HRW.out k hlt).below hbw1 hb
            rw [← HX.out] at h0 h1 h2 h3 h4 h5
            go_wp2_with fail
            go_roundw
            case rel => exact ⟨k + 1, by omega, by go_num, hbw1⟩
            case measure => simp [intOf]; omega
      · obtain rfl : k = xs.length := by omega
        have HB2 := hid (HB.out.trans (hbw.mono HB.out.size))
        have hw2 := HB2.out.size
        have R1 := hid (made16 wr w.heap.size (⟨1, 0, (-1), 0, 0, 0⟩ : I6) hw2)
        have NW := hid (row_news ((HRW.out.below hbw hb).below ((Below.refl _ wr).alloc (Nat.le_refl _) (.cells #[.int .i64 1, .int .i64 0, .int .i64 (-1), .int .i64 0, .int .i64 0, .int .i64 0] 24)) hzw))
        go_wp2_with (first | (at_builtin; go_must (refine wpList_append_own _ rfl _ _ 32 rfl w.heap.size 24 i0 (.agg #[.int .i64 0, .int .i64 0, .int .i64 0, .int .i64 0, .int .i64 0, .int .i64 0]) 6 48 Try.underlying32 hi hz0 hz1 hz2 rfl (by decide) _ _ _ rfl R1.out ⟨b, p, none⟩ xs.length c (flat xs) rfl (flat_length xs) NW.out (flat_one xs) (by unfold maxLen; omega) (by omega) (by simp; omega) ?_)))
        intro v' wa hown hgrow _
        have hown' : wa.ownsRow w.heap.size 24 6 v' ((⟨1, 0, (-1), 0, 0, 0⟩ : I6) :: xs).length (flat ((⟨1, 0, (-1), 0, 0, 0⟩ : I6) :: xs)) := by
          rw [List.length_cons, Nat.add_comm]
          exact hown
        have hba : Below w.heap.size w wa := (HB2.out.alloc hw2 _).grown hgrow (by simp; omega) (own_base R1.out)
        obtain ⟨a9, c9, rfl⟩ := own_slice hown'
        have HA9 := hid (own_argN hown' rfl)
        have HB9 := hid hba
        clear hown hown' hgrow hba R1 NW
        go_wp2_with fail
        refine (form_i ((⟨1, 0, (-1), 0, 0, 0⟩ : I6) :: xs) a9 c9 _ HA9.out (by simp; omega)).mono ?_
        rw [HM.out]
        rintro e wz ⟨rfl, b1⟩
        replace HB9 := hid (HB9.out.to b1)
        clear b1 HA9
        by_cases hlen : 48 < xs.length + 1
        · rw [if_pos hlen]
          go_wp2_with fail
          go_ret
          exact ⟨by simp; omega, HB9.out⟩
        · rw [if_neg hlen]
          go_wp2_with fail
          go_ret
          exact ⟨by simp; omega, HB9.out⟩
  · have hf' : (formN xs != 0) = true := by simp [hf]
    generalize hfx : formN xs = fx at *
    have HFX := hid hfx
    clear hfx
    go_wp2_with fail
    refine (form_s xs x c _ HA.out (by omega)).mono ?_
    rintro e w2 ⟨rfl, b1⟩
    replace HB := hid (HB.out.to b1)
    clear b1
    go_wp2_with fail
    go_ret
    exact ⟨by show Ending.returned (.bool (_ == _)) = _; rw [HFX.out, beq_self_eq_true], HB.out⟩
end Go.Proofs.Ythholhabgdpndaa
