/- ProgForm of the program; the specification's, called by its name. -/
import Derived.Test.YtghcknbpipaghaaForm
namespace Go.Proofs.Ytghcknbpipaghaa.Q
open Go.RowKit
set_option linter.unusedSimpArgs false

set_option maxRecDepth 100000 in
set_option maxHeartbeats 2000000 in
theorem f20 (xs : List I6) (b p cap : Nat) (w : World) (hr : InsRow w b p xs) (hn : xs.length ≤ 1048576) (hb : b < w.heap.size) :
    Calls Try.prog 16 #[.slice (some ⟨b, p, none⟩) xs.length cap] w fun e w' => e = .returned (.int .i64 (formN xs)) ∧ Below w.heap.size w w' := by
  go_enter Try.func16, Try.ntmps16
  go_wp2
  go_loopw [7] (fun i wr => ∃ k : Nat, k ≤ xs.length ∧ i = .int .i64 k ∧ Below w.heap.size w wr ∧ firstBad xs.length 0 xs = firstBad xs.length k (xs.drop k)) (fun i _ => xs.length - (intOf i).toNat)
  case atStart => exact ⟨0, Nat.zero_le _, rfl, Below.refl _ _, rfl⟩
  case round =>
    obtain ⟨k, hk, rfl, hbw, hi⟩ := hrel
    have HI : Hid _ := hi
    clear hi
    have hzw : b < wr.heap.size := by have := hbw.size; omega
    by_cases hlt : k < xs.length
    · have hlt' : (k : Int) < (xs.length : Int) := by omega
      obtain ⟨x, hx⟩ : ∃ x, x = xs[k] := ⟨_, rfl⟩
      have HX : Hid _ := hx
      obtain ⟨h0, h1, h2, h3, h4, h5⟩ := (hr k hlt).below hbw hb
      rw [← hx] at h0 h1 h2 h3 h4 h5
      clear hx
      cases hok : x.ok
      · have hok' : insOkB x.o x.d x.s x.f x.i x.z = false := by rw [ok_same]; exact hok
        have Hok : Hid _ := hok
        clear hok
        go_wp2_with fail
        refine (f11 _ _ _ _ _ _ _).mono ?_
        rintro e w1 ⟨rfl, hb1⟩
        obtain ⟨hc1, hf1⟩ := bcell hb1
        have hbw1 : Below w.heap.size w w1 := (hbw.alloc hbw.size _).trans (hb1.mono (by simp; have := hbw.size; omega))
        go_wp2_with fail
        go_ret
        exact ⟨ret_i64 (form_bad hlt HI.out (by rw [← HX.out]; exact bad_ok Hok.out) (by decide)).symm, hbw1⟩
      · have hok' : insOkB x.o x.d x.s x.f x.i x.z = true := by rw [ok_same]; exact hok
        have hoff := ok_off hok
        have Hok : Hid _ := hok
        clear hok
        cases hj : jumpsB x.o
        · go_wp2_with fail
          refine (f11 _ _ _ _ _ _ _).mono ?_
          rintro e w1 ⟨rfl, hb1⟩
          obtain ⟨hc1, hf1⟩ := bcell hb1
          have hbw1 : Below w.heap.size w w1 := (hbw.alloc hbw.size _).trans (hb1.mono (by simp; have := hbw.size; omega))
          go_wp2_with fail
          refine (f37 _ _).mono ?_
          rintro e w2 ⟨rfl, rfl⟩
          go_wp2_with fail
          go_roundw
          case rel => exact ⟨k + 1, by omega, by go_num, hbw1, form_next hlt HI.out (by rw [← HX.out]; exact bad_none Hok.out hj)⟩
          case measure => simp [intOf]; omega
        · cases hp : inB ((k : Int) + 1 + x.f) 0 ((xs.length : Int) - 1)
          · go_wp2_with fail
            refine (f11 _ _ _ _ _ _ _).mono ?_
            rintro e w1 ⟨rfl, hb1⟩
            obtain ⟨hc1, hf1⟩ := bcell hb1
            have hbw1 : Below w.heap.size w w1 := (hbw.alloc hbw.size _).trans (hb1.mono (by simp; have := hbw.size; omega))
            go_wp2_with fail
            refine (f37 _ _).mono ?_
            rintro e w2 ⟨rfl, rfl⟩
            go_wp2_with fail
            refine (f38 _ _ _).mono ?_
            rintro e w3 ⟨rfl, rfl⟩
            go_wp2_with fail
            go_ret
            exact ⟨ret_i64 (form_bad hlt HI.out (by rw [← HX.out]; exact bad_jump Hok.out hj hp) (by decide)).symm, hbw1⟩
          · go_wp2_with fail
            refine (f11 _ _ _ _ _ _ _).mono ?_
            rintro e w1 ⟨rfl, hb1⟩
            obtain ⟨hc1, hf1⟩ := bcell hb1
            have hbw1 : Below w.heap.size w w1 := (hbw.alloc hbw.size _).trans (hb1.mono (by simp; have := hbw.size; omega))
            go_wp2_with fail
            refine (f37 _ _).mono ?_
            rintro e w2 ⟨rfl, rfl⟩
            go_wp2_with fail
            refine (f38 _ _ _).mono ?_
            rintro e w3 ⟨rfl, rfl⟩
            go_wp2_with fail
            go_roundw
            case rel => exact ⟨k + 1, by omega, by go_num, hbw1, form_next hlt HI.out (by rw [← HX.out]; exact bad_place Hok.out hp)⟩
            case measure => simp [intOf]; omega
    · obtain rfl : k = xs.length := by omega
      have hend := form_end HI.out
      have HE : Hid _ := hend
      clear hend hlt
      by_cases hbig : 48 < xs.length
      · have hbig' : (48 : Int) < (xs.length : Int) := by omega
        go_wp2_with fail
        go_ret
        exact ⟨ret_i64 (by rw [HE.out, if_pos hbig]), hbw⟩
      · have hbig' : (xs.length : Int) ≤ 48 := by omega
        by_cases h0 : xs.length = 0
        · have h0' : ((xs.length : Int) == 0) = true := by simp [h0]
          have hem : endsN xs = false := by rw [List.length_eq_zero_iff.1 h0]; rfl
          have HEM : Hid _ := hem
          clear hem h0
          go_wp2_with fail
          go_ret
          exact ⟨ret_i64 (by rw [HE.out, if_neg hbig, HEM.out]; rfl), hbw⟩
        · have h0' : ((xs.length : Int) == 0) = false := beq_eq_false_iff_ne.2 (by omega)
          have hpos : (0 : Int) < (xs.length : Int) := by omega
          obtain ⟨x, hx⟩ : ∃ x, x = xs[xs.length - 1] := ⟨_, rfl⟩
          obtain ⟨h0, h1, h2, h3, h4, h5⟩ := (hr (xs.length - 1) (by omega)).below hbw hb
          rw [← hx] at h0 h1 h2 h3 h4 h5
          have hem : endsN xs = closesB x.o := by rw [ends_last (by omega), hx]
          have HEM : Hid _ := hem
          clear hem hx
          cases hcl : closesB x.o
          · go_wp2_with fail
            refine (f39 _ _).mono ?_
            rintro e w3 ⟨rfl, rfl⟩
            go_wp2_with fail
            go_ret
            exact ⟨ret_i64 (by rw [HE.out, if_neg hbig, HEM.out, hcl]; rfl), hbw⟩
          · go_wp2_with fail
            refine (f39 _ _).mono ?_
            rintro e w3 ⟨rfl, rfl⟩
            go_wp2_with fail
            go_ret
            exact ⟨ret_i64 (by rw [HE.out, if_neg hbig, HEM.out, hcl]; rfl), hbw⟩

end Go.Proofs.Ytghcknbpipaghaa.Q
