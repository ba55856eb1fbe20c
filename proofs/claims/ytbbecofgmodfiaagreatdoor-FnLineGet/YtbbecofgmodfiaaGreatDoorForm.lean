/- ProgForm: the list of ops as it lies in memory; what both functions answer; the walk of the specification's. -/
import Derived.Test.YtbbecofgmodfiaaGreatDoorGet3
namespace Go.Proofs.YtbbecofgmodfiaaGreatDoor
open Go.RowKit
set_option linter.unusedSimpArgs false

structure I6 where
  o : Int
  d : Int
  s : Int
  f : Int
  i : Int
  z : Int

def I6.ok (x : I6) : Bool := sokB x.o x.d x.s x.f x.i x.z
def InsAt (w : World) (b p : Nat) (x : I6) : Prop :=
  w.cell? ⟨b, p, none⟩ = some (.int .i64 x.o) ∧ w.cell? ⟨b, p + 1, none⟩ = some (.int .i64 x.d) ∧ w.cell? ⟨b, p + 2, none⟩ = some (.int .i64 x.s) ∧
  w.cell? ⟨b, p + 3, none⟩ = some (.int .i64 x.f) ∧ w.cell? ⟨b, p + 4, none⟩ = some (.int .i64 x.i) ∧ w.cell? ⟨b, p + 5, none⟩ = some (.int .i64 x.z)
def InsRow (w : World) (b p : Nat) (xs : List I6) : Prop := ∀ k (h : k < xs.length), InsAt w b (p + k * 6) xs[k]

theorem InsAt.below {w w' : World} {b p B : Nat} {x : I6} (h : InsAt w b p x) (hb : Below B w w') (hB : b < B) : InsAt w' b p x := by
  obtain ⟨h0, h1, h2, h3, h4, h5⟩ := h
  exact ⟨(hb.cell hB).trans h0, (hb.cell hB).trans h1, (hb.cell hB).trans h2, (hb.cell hB).trans h3, (hb.cell hB).trans h4, (hb.cell hB).trans h5⟩
theorem InsRow.below {w w' : World} {b p B : Nat} {xs : List I6} (h : InsRow w b p xs) (hb : Below B w w') (hB : b < B) : InsRow w' b p xs :=
  fun k hk => (h k hk).below hb hB

def badN (n : Int) (k : Nat) (x : I6) : Int := if x.ok then (if jumpsB x.o && !inB ((k : Int) + 1 + x.f) 0 (n - 1) then 2 else 0) else 1
def firstBad (n : Int) : Nat → List I6 → Int
  | _, [] => 0
  | k, x :: xs => if badN n k x = 0 then firstBad n (k + 1) xs else badN n k x
def endsN (xs : List I6) : Bool := match xs.getLast? with
  | some x => closesB x.o
  | none => false
def formN (xs : List I6) : Int :=
  if firstBad xs.length 0 xs = 0 then (if 48 < xs.length then 3 else if endsN xs then 0 else 4) else firstBad xs.length 0 xs

theorem firstBad_step (n : Int) (xs : List I6) (k : Nat) (h : k < xs.length) : firstBad n k (xs.drop k) = if badN n k xs[k] = 0 then firstBad n (k + 1) (xs.drop (k + 1)) else badN n k xs[k] := by
  rw [List.drop_eq_getElem_cons h, firstBad]

theorem form_bad {xs : List I6} {k : Nat} {c : Int} (h : k < xs.length) (hi : firstBad xs.length 0 xs = firstBad xs.length k (xs.drop k)) (hb : badN xs.length k xs[k] = c) (hc : c ≠ 0) : formN xs = c := by
  rw [firstBad_step _ _ _ h, hb, if_neg hc] at hi
  unfold formN
  rw [hi, if_neg hc]

theorem form_next {xs : List I6} {k : Nat} (h : k < xs.length) (hi : firstBad xs.length 0 xs = firstBad xs.length k (xs.drop k)) (hb : badN xs.length k xs[k] = 0) : firstBad xs.length 0 xs = firstBad xs.length (k + 1) (xs.drop (k + 1)) := by
  rw [firstBad_step _ _ _ h, hb] at hi
  simpa using hi

theorem form_end {xs : List I6} (hi : firstBad xs.length 0 xs = firstBad xs.length xs.length (xs.drop xs.length)) : formN xs = if 48 < xs.length then 3 else if endsN xs then 0 else 4 := by
  rw [List.drop_length] at hi
  unfold formN
  rw [hi]; simp [firstBad]

theorem bad_ok {n : Int} {k : Nat} {x : I6} (h : x.ok = false) : badN n k x = 1 := by simp [badN, h]
theorem bad_jump {n : Int} {k : Nat} {x : I6} (h : x.ok = true) (hj : jumpsB x.o = true) (hp : inB ((k : Int) + 1 + x.f) 0 (n - 1) = false) : badN n k x = 2 := by simp [badN, h, hj, hp]
theorem bad_none {n : Int} {k : Nat} {x : I6} (h : x.ok = true) (hj : jumpsB x.o = false) : badN n k x = 0 := by simp [badN, h, hj]
theorem bad_place {n : Int} {k : Nat} {x : I6} (h : x.ok = true) (hp : inB ((k : Int) + 1 + x.f) 0 (n - 1) = true) : badN n k x = 0 := by simp [badN, h, hp]
theorem ok_off {x : I6} (h : x.ok = true) : -128 ≤ x.f ∧ x.f ≤ 127 := by
  simp [I6.ok, sokB, inB] at h; omega
theorem ret_i64 {a b : Int} (h : a = b) : Ending.returned (.int .i64 a) = .returned (.int .i64 b) := by rw [h]
theorem ends_last {xs : List I6} (h : 0 < xs.length) : endsN xs = closesB (xs[xs.length - 1]).o := by
  unfold endsN
  rw [List.getLast?_eq_getElem?, List.getElem?_eq_getElem (by omega)]

end Go.Proofs.YtbbecofgmodfiaaGreatDoor
