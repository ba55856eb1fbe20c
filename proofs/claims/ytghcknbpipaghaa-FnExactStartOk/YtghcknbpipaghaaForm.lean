/- ProgForm: the list of ops as it lies in memory; what both functions answer; the walk of the specification's. -/
import Derived.Test.YtghcknbpipaghaaOk2
namespace Go.Proofs.Ytghcknbpipaghaa.Q
open Go.RowKit
set_option linter.unusedSimpArgs false

structure I6 where
  o : Int
  d : Int
  s : Int
  f : Int
  i : Int
  z : Int

def I6.ok (x : I6) : Bool := sokB x.o x.d x.s x.f x.i x.z
def InsAt (w : World) (b p : Nat) (x : I6) : Prop :=
  w.cell? ⟨b, p, none⟩ = some (.int .i64 x.o) ∧ w.cell? ⟨b, p + 1, none⟩ = some (.int .i64 x.d) ∧ w.cell? ⟨b, p + 2, none⟩ = some (.int .i64 x.s) ∧
  w.cell? ⟨b, p + 3, none⟩ = some (.int .i64 x.f) ∧ w.cell? ⟨b, p + 4, none⟩ = some (.int .i64 x.i) ∧ w.cell? ⟨b, p + 5, none⟩ = some (.int .i64 x.z)
def InsRow (w : World) (b p : Nat) (xs : List I6) : Prop := ∀ k (h : k < xs.length), InsAt w b (p + k * 6) xs[k]

theorem InsAt.below {w w' : World} {b p B : Nat} {x : I6} (h : InsAt w b p x) (hb : Below B w w') (hB : b < B) : InsAt w' b p x := by
  obtain ⟨h0, h1, h2, h3, h4, h5⟩ := h
  exact ⟨(hb.cell hB).trans h0, (hb.cell hB).trans h1, (hb.cell hB).trans h2, (hb.cell hB).trans h3, (hb.cell hB).trans h4, (hb.cell hB).trans h5⟩
theorem InsRow.below {w w' : World} {b p B : Nat} {xs : List I6} (h : InsRow w b p xs) (hb : Below B w w') (hB : b < B) : InsRow w' b p xs :=
  fun k hk => (h k hk).below hb hB

def badN (n : Int) (k : Nat) (x : I6) : Int := if x.ok then (if jumpsB x.o && !inB ((k : Int) + 1 + x.f) 0 (n - 1) then 2 else 0) else 1
def firstBad (n : Int) : Nat → List I6 → Int
  | _, [] => 0
  | k, x :: xs => if badN n k x = 0 then firstBad n (k + 1) xs else badN n k x
def endsN (xs : List I6) : Bool := match xs.getLast? with
  | some x => closesB x.o
  | none => false
def formN (xs : List I6) : Int :=
  if firstBad xs.length 0 xs = 0 then (if 48 < xs.length then 3 else if endsN xs then 0 else 4) else firstBad xs.length 0 xs

theorem firstBad_step (n : Int) (xs : List I6) (k : Nat) (h : k < xs.length) : firstBad n k (xs.drop k) = if badN n k xs[k] = 0 then firstBad n (k + 1) (xs.drop (k + 1)) else badN n k xs[k] := by
  rw [List.drop_eq_getElem_cons h, firstBad]

theorem form_bad {xs : List I6} {k : Nat} {c : Int} (h : k < xs.length) (hi : firstBad xs.length 0 xs = firstBad xs.length k (xs.drop k)) (hb : badN xs.length k xs[k] = c) (hc : c ≠ 0) : formN xs = c := by
  rw [firstBad_step _ _ _ h, hb, if_neg hc] at hi
  unfold formN
  rw [hi, if_neg hc]

theorem form_next {xs : List I6} {k : Nat} (h : k < xs.length) (hi : firstBad xs.length 0 xs = firstBad xs.length k (xs.drop k)) (hb : badN xs.length k xs[k] = 0) : firstBad xs.length 0 xs = firstBad xs.length (k + 1) (xs.drop (k + 1)) := by
  rw [firstBad_step _ _ _ h, hb] at hi
  simpa using hi

theorem form_end {xs : List I6} (hi : firstBad xs.length 0 xs = firstBad xs.length xs.length (xs.drop xs.length)) : formN xs = if 48 < xs.length then 3 else if endsN xs then 0 else 4 := by
  rw [List.drop_length] at hi
  unfold formN
  rw [hi]; simp [firstBad]

theorem bad_ok {n : Int} {k : Nat} {x : I6} (h : x.ok = false) : badN n k x = 1 := by simp [badN, h]
theorem bad_jump {n : Int} {k : Nat} {x : I6} (h : x.ok = true) (hj : jumpsB x.o = true) (hp : inB ((k : Int) + 1 + x.f) 0 (n - 1) = false) : badN n k x = 2 := by simp [badN, h, hj, hp]
theorem bad_none {n : Int} {k : Nat} {x : I6} (h : x.ok = true) (hj : jumpsB x.o = false) : badN n k x = 0 := by simp [badN, h, hj]
theorem bad_place {n : Int} {k : Nat} {x : I6} (h : x.ok = true) (hp : inB ((k : Int) + 1 + x.f) 0 (n - 1) = true) : badN n k x = 0 := by simp [badN, h, hp]
theorem ok_off {x : I6} (h : x.ok = true) : -128 ≤ x.f ∧ x.f ≤ 127 := by
  simp [I6.ok, sokB, inB] at h; omega
theorem ret_i64 {a b : Int} (h : a = b) : Ending.returned (.int .i64 a) = .returned (.int .i64 b) := by rw [h]
theorem ends_last {xs : List I6} (h : 0 < xs.length) : endsN xs = closesB (xs[xs.length - 1]).o := by
  unfold endsN
  rw [List.getLast?_eq_getElem?, List.getElem?_eq_getElem (by omega)]

set_option maxRecDepth 100000 in
set_option maxHeartbeats 2000000 in
theorem f36 (xs : List I6) (b p cap : Nat) (w : World) (hr : InsRow w b p xs) (hn : xs.length ≤ 1048576) (hb : b < w.heap.size) :
    Calls Try.prog 26 #[.slice (some ⟨b, p, none⟩) xs.length cap] w fun e w' => e = .returned (.int .i64 (formN xs)) ∧ Below w.heap.size w w' := by
  go_enter Try.func26, Try.ntmps26
  go_wp2
  go_loopw [3] (fun i wr => ∃ k : Nat, k ≤ xs.length ∧ i = .int .i64 k ∧ Below w.heap.size w wr ∧ firstBad xs.length 0 xs = firstBad xs.length k (xs.drop k)) (fun i _ => xs.length - (intOf i).toNat)
  case atStart => exact ⟨0, Nat.zero_le _, rfl, Below.refl _ _, rfl⟩
  case round =>
    obtain ⟨k, hk, rfl, hbw, hi⟩ := hrel
    have HI : Hid _ := hi
    clear hi
    have hzw : b < wr.heap.size := by have := hbw.size; omega
    by_cases hlt : k < xs.length
    · have hlt' : (k : Int) < (xs.length : Int) := by omega
      obtain ⟨x, hx⟩ : ∃ x, x = xs[k] := ⟨_, rfl⟩
      have HX : Hid _ := hx
      obtain ⟨h0, h1, h2, h3, h4, h5⟩ := (hr k hlt).below hbw hb
      rw [← hx] at h0 h1 h2 h3 h4 h5
      clear hx
      cases hok : x.ok
      · have hok' : sokB x.o x.d x.s x.f x.i x.z = false := hok
        have Hok : Hid _ := hok
        clear hok
        go_wp2_with fail
        refine (f28 _ _ _ _ _ _ _).mono ?_
        rintro e w1 ⟨rfl, hb1⟩
        go_wp2_with fail
        go_ret
        exact ⟨ret_i64 (form_bad hlt HI.out (by rw [← HX.out]; exact bad_ok Hok.out) (by decide)).symm, hbw.trans (hb1.mono hbw.size)⟩
      · have hok' : sokB x.o x.d x.s x.f x.i x.z = true := hok
        have hoff := ok_off hok
        have Hok : Hid _ := hok
        clear hok
        cases hj1 : inB x.o 12 15
        · cases hj2 : (x.o == 16)
          case false =>
            go_wp2_with fail
            refine (f28 _ _ _ _ _ _ _).mono ?_
            rintro e w1 ⟨rfl, hb1⟩
            obtain ⟨hc1, hf1⟩ := bcell hb1
            have hbw1 : Below w.heap.size w w1 := hbw.trans (hb1.mono hbw.size)
            go_wp2_with fail
            refine (f48 _ _).mono ?_
            rintro e w2 ⟨rfl, rfl⟩
            go_wp2_with fail
            go_roundw
            case rel => exact ⟨k + 1, by omega, by go_num, hbw1, form_next hlt HI.out (by rw [← HX.out]; exact bad_none Hok.out (by simp [jumpsB, hj1, isB, hj2]))⟩
            case measure => simp [intOf]; omega
          case true =>
            go_wp2_with fail
            refine (f28 _ _ _ _ _ _ _).mono ?_
            rintro e w1 ⟨rfl, hb1⟩
            obtain ⟨hc1, hf1⟩ := bcell hb1
            have hbw1 : Below w.heap.size w w1 := hbw.trans (hb1.mono hbw.size)
            go_wp2_with fail
            refine (f48 _ _).mono ?_
            rintro e w2 ⟨rfl, rfl⟩
            cases hp : inB ((k : Int) + 1 + x.f) 0 ((xs.length : Int) - 1)
            · go_wp2_with fail
              refine (f40 _ _ _ _).mono ?_
              rintro e w3 ⟨rfl, rfl⟩
              go_wp2_with fail
              go_ret
              exact ⟨ret_i64 (form_bad hlt HI.out (by rw [← HX.out]; exact bad_jump Hok.out (by simp [jumpsB, hj1, isB, hj2]) hp) (by decide)).symm, hbw1⟩
            · go_wp2_with fail
              refine (f40 _ _ _ _).mono ?_
              rintro e w3 ⟨rfl, rfl⟩
              go_wp2_with fail
              go_roundw
              case rel => exact ⟨k + 1, by omega, by go_num, hbw1, form_next hlt HI.out (by rw [← HX.out]; exact bad_place Hok.out hp)⟩
              case measure => simp [intOf]; omega
        · go_wp2_with fail
          refine (f28 _ _ _ _ _ _ _).mono ?_
          rintro e w1 ⟨rfl, hb1⟩
          obtain ⟨hc1, hf1⟩ := bcell hb1
          have hbw1 : Below w.heap.size w w1 := hbw.trans (hb1.mono hbw.size)
          go_wp2_with fail
          refine (f48 _ _).mono ?_
          rintro e w2 ⟨rfl, rfl⟩
          cases hp : inB ((k : Int) + 1 + x.f) 0 ((xs.length : Int) - 1)
          · go_wp2_with fail
            refine (f40 _ _ _ _).mono ?_
            rintro e w3 ⟨rfl, rfl⟩
            go_wp2_with fail
            go_ret
            exact ⟨ret_i64 (form_bad hlt HI.out (by rw [← HX.out]; exact bad_jump Hok.out (by simp [jumpsB, hj1]) hp) (by decide)).symm, hbw1⟩
          · go_wp2_with fail
            refine (f40 _ _ _ _).mono ?_
            rintro e w3 ⟨rfl, rfl⟩
            go_wp2_with fail
            go_roundw
            case rel => exact ⟨k + 1, by omega, by go_num, hbw1, form_next hlt HI.out (by rw [← HX.out]; exact bad_place Hok.out hp)⟩
            case measure => simp [intOf]; omega
    · obtain rfl : k = xs.length := by omega
      have hend := form_end HI.out
      have HE : Hid _ := hend
      clear hend hlt
      by_cases hbig : 48 < xs.length
      · have hbig' : (48 : Int) < (xs.length : Int) := by omega
        go_wp2_with fail
        go_ret
        exact ⟨ret_i64 (by rw [HE.out, if_pos hbig]), hbw⟩
      · have hbig' : (xs.length : Int) ≤ 48 := by omega
        by_cases h0 : xs.length = 0
        · have h0' : ((xs.length : Int) == 0) = true := by simp [h0]
          have hem : endsN xs = false := by rw [List.length_eq_zero_iff.1 h0]; rfl
          have HEM : Hid _ := hem
          clear hem h0
          go_wp2_with fail
          go_ret
          exact ⟨ret_i64 (by rw [HE.out, if_neg hbig, HEM.out]; rfl), hbw⟩
        · have h0' : ((xs.length : Int) == 0) = false := beq_eq_false_iff_ne.2 (by omega)
          have hpos : (0 : Int) < (xs.length : Int) := by omega
          obtain ⟨x, hx⟩ : ∃ x, x = xs[xs.length - 1] := ⟨_, rfl⟩
          obtain ⟨h0, h1, h2, h3, h4, h5⟩ := (hr (xs.length - 1) (by omega)).below hbw hb
          rw [← hx] at h0 h1 h2 h3 h4 h5
          have hem : endsN xs = closesB x.o := by rw [ends_last (by omega), hx]
          have HEM : Hid _ := hem
          clear hem hx
          go_wp2_with fail
          go_ways
          all_goals go_ret
          all_goals refine ⟨ret_i64 ?_, hbw⟩
          all_goals rw [HE.out, if_neg hbig, HEM.out]
          all_goals clear HE HEM HI
          all_goals simp_all [closesB, isB]

end Go.Proofs.Ytghcknbpipaghaa.Q
