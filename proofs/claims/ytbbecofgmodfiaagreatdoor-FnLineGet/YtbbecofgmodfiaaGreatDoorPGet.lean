/- Reading a program: what both ProgGet answer, as a function of the bytes; small facts on owned rows of ops. -/
import Derived.Test.YtbbecofgmodfiaaGreatDoorPPut
namespace Go.Proofs.YtbbecofgmodfiaaGreatDoor
open Go.RowKit
set_option linter.unusedSimpArgs false

def getI (s : ByteArray) : Option I6 := match s.data.toList with
  | [b0, b1, b2, b3, b4, b5, b6, b7] =>
    if sokB (b0.toNat : Int) ((b1.toNat : Int) / 16) ((b1.toNat : Int) % 16 - 1) (offV b2) (immO b4 b5 b6 b7) (b3.toNat : Int) then
      some ⟨(b0.toNat : Int), (b1.toNat : Int) / 16, (b1.toNat : Int) % 16 - 1, offV b2, immO b4 b5 b6 b7, (b3.toNat : Int)⟩ else none
  | _ => none

def chunk (s : ByteArray) (k : Nat) : ByteArray := s.extract (8 * k) (8 * k + 8)
def gots (s : ByteArray) : Nat → Option (List I6)
  | 0 => some []
  | k + 1 => match gots s k, getI (chunk s k) with
    | some xs, some x => some (xs ++ [x])
    | _, _ => none
def progG (s : ByteArray) : Option (List I6) := if s.size % 8 = 0 then (match gots s (s.size / 8) with
  | some xs => if formN xs = 0 then some xs else none
  | none => none) else none

theorem gots_length {s : ByteArray} : ∀ {k : Nat} {xs : List I6}, gots s k = some xs → xs.length = k
  | 0, xs, h => by simp [gots] at h; subst h; rfl
  | k + 1, xs, h => by
    unfold gots at h
    split at h
    · rename_i ys y h1 h2
      simp at h
      subst h
      have := gots_length h1
      simp [this]
    · cases h
theorem gots_none {s : ByteArray} {k : Nat} (h : gots s k = none) : ∀ m, k ≤ m → gots s m = none := by
  intro m hm
  induction m with
  | zero => obtain rfl : k = 0 := by omega
            exact h
  | succ m ih =>
    by_cases hk : k = m + 1
    · rw [← hk]; exact h
    · unfold gots; rw [ih (by omega)]
theorem gots_step {s : ByteArray} {k : Nat} {xs : List I6} {x : I6} (h : gots s k = some xs) (hx : getI (chunk s k) = some x) : gots s (k + 1) = some (xs ++ [x]) := by
  unfold gots; rw [h, hx]
theorem progG_none {s : ByteArray} {k : Nat} {xs : List I6} (h : gots s k = some xs) (hx : getI (chunk s k) = none) (hk : k < s.size / 8) : progG s = none := by
  have h1 : gots s (k + 1) = none := by unfold gots; rw [h, hx]
  unfold progG
  rw [gots_none h1 _ (by omega)]
  split <;> rfl
theorem progG_end {s : ByteArray} {k : Nat} {xs : List I6} (h8 : s.size % 8 = 0) (h : gots s k = some xs) (hk : k = s.size / 8) : progG s = if formN xs = 0 then some xs else none := by
  unfold progG
  rw [if_pos h8, ← hk, h]
theorem progG_odd {s : ByteArray} (h8 : s.size % 8 ≠ 0) : progG s = none := by
  unfold progG; rw [if_neg h8]
theorem progG_big {s : ByteArray} (h : 384 < s.size) : progG s = none := by
  unfold progG
  split
  · split
    · rename_i xs hx
      have hl := gots_length hx
      rw [if_neg]
      intro hf
      have := form_small hf
      omega
    · rfl
  · rfl

/-- The cells of a list of ops. -/
def flat (xs : List I6) : List Value := xs.flatMap fun x => [.int .i64 x.o, .int .i64 x.d, .int .i64 x.s, .int .i64 x.f, .int .i64 x.i, .int .i64 x.z]
theorem flat_length (xs : List I6) : (flat xs).length = xs.length * 6 := by
  induction xs with
  | nil => rfl
  | cons x xs ih => simp [flat] at *; omega
theorem flat_snoc (xs : List I6) (x : I6) : flat (xs ++ [x]) = flat xs ++ [.int .i64 x.o, .int .i64 x.d, .int .i64 x.s, .int .i64 x.f, .int .i64 x.i, .int .i64 x.z] := by simp [flat]
theorem flat_at : ∀ (xs : List I6) (k : Nat) (h : k < xs.length), (flat xs)[k * 6]? = some (.int .i64 xs[k].o) ∧ (flat xs)[k * 6 + 1]? = some (.int .i64 xs[k].d) ∧ (flat xs)[k * 6 + 2]? = some (.int .i64 xs[k].s) ∧
    (flat xs)[k * 6 + 3]? = some (.int .i64 xs[k].f) ∧ (flat xs)[k * 6 + 4]? = some (.int .i64 xs[k].i) ∧ (flat xs)[k * 6 + 5]? = some (.int .i64 xs[k].z)
  | [], k, h => by simp at h
  | x :: xs, 0, _ => by simp [flat]
  | x :: xs, k + 1, h => by
    have ih := flat_at xs k (by simpa using h)
    have e : ∀ j, (flat (x :: xs))[(k + 1) * 6 + j]? = (flat xs)[k * 6 + j]? := by
      intro j
      show ([.int .i64 x.o, .int .i64 x.d, .int .i64 x.s, .int .i64 x.f, .int .i64 x.i, .int .i64 x.z] ++ flat xs)[(k + 1) * 6 + j]? = _
      rw [List.getElem?_append_right (by simp; omega)]
      congr 1
      simp
      omega
    refine ⟨?_, ?_, ?_, ?_, ?_, ?_⟩
    · have := e 0; simp only [Nat.add_zero] at this; rw [this]; exact ih.1
    · rw [e 1]; exact ih.2.1
    · rw [e 2]; exact ih.2.2.1
    · rw [e 3]; exact ih.2.2.2.1
    · rw [e 4]; exact ih.2.2.2.2.1
    · rw [e 5]; exact ih.2.2.2.2.2

/-- A row that the call owns, as a list of ops in memory. -/
theorem own_row {w : World} {base : Nat} {v : Value} {xs : List I6} (h : w.ownsRow base 24 6 v xs.length (flat xs)) :
    (xs = [] ∧ v = .slice none 0 0) ∨ ∃ g cap, v = .slice (some ⟨g, 0, none⟩) xs.length cap ∧ base ≤ g ∧ g < w.heap.size ∧ InsRow w g 0 xs ∧ Room w g (xs.length * 6) := by
  have h' := h
  rcases h.2 with ⟨hv, hn⟩ | ⟨g, cap, cur, rfl, hb, hg, _⟩
  · exact .inl ⟨List.length_eq_zero_iff.1 hn, hv⟩
  · refine .inr ⟨g, cap, rfl, hb, (Array.getElem?_eq_some_iff.1 hg).1, fun k hk => ?_, room_own h'⟩
    obtain ⟨e0, e1, e2, e3, e4, e5⟩ := flat_at xs k hk
    rw [Nat.zero_add]
    exact ⟨(h'.cellAt _ (by omega)).trans e0, (h'.cellAt _ (by omega)).trans e1, (h'.cellAt _ (by omega)).trans e2, (h'.cellAt _ (by omega)).trans e3, (h'.cellAt _ (by omega)).trans e4, (h'.cellAt _ (by omega)).trans e5⟩
theorem own_arg {w : World} {base : Nat} {v : Value} {xs : List I6} (h : w.ownsRow base 24 6 v xs.length (flat xs)) : ∃ a cap, v = .slice a xs.length cap ∧ ArgRow w a xs := by
  rcases own_row h with ⟨rfl, rfl⟩ | ⟨g, cap, rfl, _, hg, hr, _⟩
  · exact ⟨none, 0, rfl, .inl rfl⟩
  · exact ⟨_, cap, rfl, .inr ⟨g, 0, rfl, hg, hr⟩⟩

end Go.Proofs.YtbbecofgmodfiaaGreatDoor
